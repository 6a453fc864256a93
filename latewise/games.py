"""The game of requests against modes: the least factor that any way of choosing modes has."""

from latewise.checks import check_factor, is_integer
from latewise.duels import answered, called, settle
from latewise.graphs import Graph, dear_loop
from latewise.hindsight import can_serve, first_debts, growth

MOST_POSITIONS = 60


def least_factor(system):
    """The least factor of a system, or None if it has none."""
    return settle(moves_of(position_graph(system)))[0]


def choices(system):
    """Choices that have the least factor of a system, or None if there is none."""
    graph = position_graph(system)
    moves = moves_of(graph)
    answers = settle(moves)[1]
    if answers is None:
        return None
    return {graph.places[number]: answers[number] for number in answered(moves, answers).places}


def requests(system):
    """Requests that hold the least factor of a system, or all factors if there is none; None if it is (1, 1)."""
    graph = position_graph(system)
    moves = moves_of(graph)
    calls = settle(moves)[2]
    if calls is None:
        return None
    return {graph.places[number]: calls[number] for number in called(moves, calls).places}


def have_factor(system, choices, some_factor):
    """True if the value choices is choices that have a factor."""
    graph = position_graph(system)
    check_factor(some_factor)
    if not isinstance(choices, dict):
        return False
    moves = moves_of(graph)
    told = [choices.get(position) for position in graph.places]
    right = [are_modes(one, value) for one, value in zip(moves, told)]
    # Behind a wrong value nothing is reached; that it is reached itself is enough to refuse it.
    play = answered(moves, [value if fine else {} for value, fine in zip(told, right)])
    return all([right[number] for number in play.places]) and dear_loop(play, some_factor) is None


def hold_factor(system, requests, some_factor):
    """True if the value requests is requests that hold a factor, or all factors if some_factor is None."""
    graph = position_graph(system)
    if some_factor is not None:
        check_factor(some_factor)
    if not isinstance(requests, dict):
        return False
    moves = moves_of(graph)
    told = [requests.get(position) for position in graph.places]
    right = [isinstance(value, str) and value in one for one, value in zip(moves, told)]
    play = called(moves, [value if fine else None for value, fine in zip(told, right)])
    if not all([right[number] for number in play.places]) or has_free_loop(play):
        return False
    if some_factor is None:
        return dear_loop(play, (-1, 0)) is None
    return dear_loop(play, (-some_factor[0], -some_factor[1])) is None


def position_graph(system):
    """The graph of all positions that can be reached, with pairs (kind, mode) as labels."""
    return Graph((0, first_debts(system)), lambda position: steps_from(system, position), MOST_POSITIONS)


def steps_from(system, position):
    """The steps from a position, one for each kind and each mode that can serve it."""
    mode, some_debts = position
    found = []
    for kind in system.names:
        grown, owed = growth(system, some_debts, kind)
        for chosen in range(system.modes):
            if can_serve(system, kind, chosen):
                found.append(((kind, chosen), (chosen, owed), system.price(mode, kind, chosen), grown))
    return found


def moves_of(graph):
    """For each number of a position, a dict from kinds to dicts from modes to tuples (number behind, cost, growth)."""
    moves = []
    for edges in graph.edges:
        found = {}
        for (kind, mode), behind, cost, grown in edges:
            if kind not in found:
                found[kind] = {}
            found[kind][mode] = (behind, cost, grown)
        moves.append(found)
    return moves


def are_modes(moves, value):
    """True if the value is a dict from just the kinds of these moves to modes that can serve them."""
    if not isinstance(value, dict) or len(value) != len(moves):
        return False
    return all([kind in value and is_integer(value[kind]) and value[kind] in moves[kind] for kind in moves])


def has_free_loop(graph):
    """True if some loop of a graph has no cost."""
    left = {number: True for number in range(len(graph.edges))}
    staying = free_among(graph, left)
    while len(staying) < len(left):
        left = staying
        staying = free_among(graph, left)
    return len(left) > 0


def free_among(graph, left):
    """Those of the numbers left from which an edge without a cost leads to one of them."""
    return {
        number: True for number in left
        if any([edge[2] == 0 and edge[1] in left for edge in graph.edges[number]])
    }
