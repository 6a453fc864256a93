"""What it is worth to know some requests ahead, where not every kind may follow each one."""

from latewise.duels import settle
from latewise.errors import BadFollows
from latewise.factors import MOST_SPOTS, steps_from
from latewise.games import moves_of
from latewise.graphs import Graph, worst_loop
from latewise.hindsight import can_serve, first_debts, growth
from latewise.rules import check

MOST_TUPLES = 150


def known_factor(system, known, follows):
    """The least factor with so many known requests, for the rows that follow; None if there is none."""
    return settle(moves_of(known_graph(system, known, follows)))[0]


def rule_factor(system, rule, follows):
    """The least factor of a rule for the rows that follow; None if there is none."""
    check(system, rule)
    check_follows(system, follows)
    first = ((0, 0, first_debts(system)), None)
    graph = Graph(first, lambda place: steps_following(system, rule, follows, place), MOST_SPOTS)
    return worst_loop(graph)[0]


def known_graph(system, known, follows):
    """The graph of the tuples (mode, debts, known requests, last request), with pairs (kind, mode) as labels."""
    check_follows(system, follows)
    first = (0, first_debts(system), (), None)
    return Graph(first, lambda place: steps_knowing(system, known, follows, place), MOST_TUPLES)


def check_follows(system, value):
    """Raises BadFollows if the value is neither None nor follows of the system."""
    if value is not None and not are_follows(system, value):
        raise BadFollows()


def are_follows(system, value):
    """True if the value is a dict from all kinds of the system to lists of those that may follow them."""
    if not isinstance(value, dict) or len(value) != len(system.names):
        return False
    return all([kind in value and are_next_kinds(system, value[kind]) for kind in system.names])


def are_next_kinds(system, value):
    """True if the value is a list of one or more different kinds of the system."""
    if not isinstance(value, list) or len(value) == 0:
        return False
    return all([thing in system.names and value.count(thing) == 1 for thing in value])


def kinds_behind(system, follows, last):
    """The kinds that may come behind the last request, which is None where each one may."""
    return system.names if last is None else follows[last]


def last_request(follows, kind):
    """What is kept of a request of the kind to tell which ones may follow it: None where all may."""
    return None if follows is None else kind


def steps_knowing(system, known, follows, place):
    """The steps from a tuple (mode, debts, known requests, last request).

    A further kind is told; then the first request is served in the mode, if so many behind it are known. Otherwise
    no mode is chosen yet, and None stands in place of it.
    """
    mode, some_debts, waiting, last = place
    found = []
    for kind in kinds_behind(system, follows, last):
        told = (*waiting, kind)
        kept = last_request(follows, kind)
        if len(waiting) < known:
            found.append(((kind, None), (mode, some_debts, told, kept), 0, 0))
        else:
            found += [((kind, chosen), (chosen, owed, told[1:], kept), cost, grown)
                      for chosen, owed, cost, grown in ways_to_serve(system, mode, some_debts, told[0])]
    return found


def ways_to_serve(system, mode, some_debts, kind):
    """For each mode that can serve the kind a tuple (mode, debts behind it, cost, growth)."""
    grown, owed = growth(system, some_debts, kind)
    able = [chosen for chosen in range(system.modes) if can_serve(system, kind, chosen)]
    return [(chosen, owed, system.price(mode, kind, chosen), grown) for chosen in able]


def steps_following(system, rule, follows, place):
    """The steps of a rule from a pair (spot, last request), with the kinds as labels."""
    spot, last = place
    kinds = kinds_behind(system, follows, last)
    return [
        (kind, (behind, last_request(follows, kind)), cost, grown)
        for kind, behind, cost, grown in steps_from(system, rule, spot) if kind in kinds
    ]
