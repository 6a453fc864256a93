"""Duels of calls and answers: who calls a kind wants it dear, who answers with a mode wants it cheap.

The moves of a duel are a list that has, for each number of a place, a dict from kinds to dicts from modes to tuples
(number behind, cost, growth). The duel begins at the number 0. Calls are a list of a kind, or None, for each number;
answers are a list of a dict from kinds to modes for each number.
"""

from latewise.graphs import Graph, worst_loop

MOST_COST = 8
MOST_GROWTH = 8


def settle(moves):
    """The least factor that answers can have, answers that have it, and calls that hold it.

    The factor and the answers are None if the calls hold all factors; the calls are None if the factor is (1, 1).
    """
    some_factor = None
    answers = None
    # No loop through places that differ costs as much as this, so none that has a growth is worth more than 0.
    limit = (MOST_COST * len(moves) + 1, 1)
    while True:
        worths = worths_of(moves, limit)
        numbers, calls = best_calls(worths)
        if numbers[0] is None:
            return some_factor, answers, calls
        answers = [best_answers(places, numbers) for places in worths]
        some_factor = worst_loop(answered(moves, answers))[0]
        if some_factor == (1, 1):
            return some_factor, answers, None
        limit = just_below(some_factor, len(moves))


def answered(moves, answers):
    """The graph of the numbers that are reached if all kinds are called and these answers are given."""
    return Graph(0, lambda number: answer_steps(moves[number], answers[number]), None)


def answer_steps(places, answer):
    """The steps at a place with these moves if its kinds are answered so."""
    return [(kind, *places[kind][answer[kind]]) for kind in answer]


def called(moves, calls):
    """The graph of the numbers that are reached if these kinds are called and all answers are given.

    Nothing is reached behind a number that has None as its call.
    """
    return Graph(0, lambda number: call_steps(moves[number], calls[number]), None)


def call_steps(places, call):
    """The steps at a place with these moves if this kind is called; none if the call is None."""
    if call is None:
        return []
    return [(mode, *places[call][mode]) for mode in places[call]]


def just_below(some_factor, many):
    """A fraction below a factor, so near that no loop through so many places, which differ, has one between them."""
    top, bottom = some_factor
    scale = MOST_GROWTH * many + 1
    return top * scale - 1, bottom * scale


def worths_of(moves, limit):
    """For each number a dict from kinds to dicts from modes to pairs (number behind, worth of the move)."""
    return [{kind: worths_of_answers(places[kind], limit) for kind in places} for places in moves]


def worths_of_answers(answers, limit):
    """The answers with bottom times their cost less top times their growth, for the limit (top, bottom)."""
    top, bottom = limit
    return {mode: (behind, bottom * cost - top * grown) for mode, (behind, cost, grown) in answers.items()}


def best_calls(worths):
    """The pair of the numbers and the calls that make the most of each place, if each call may be the last one.

    The number of a place is what the calls from it are worth against the best answers, at least 0 by calling nothing;
    None if they may go on and be worth ever more. If this is so at the beginning, all loops of the calls there are
    worth more than 0.
    """
    calls = [None for places in worths]
    numbers = [0 for places in worths]
    # Calls are changed only to what is worth more, so each loop of them is worth more than 0 at all times: its moves
    # are worth at least what the numbers fall by along it, and more than this at the changed ones.
    while numbers[0] is not None and change_calls(worths, numbers, calls):
        numbers = numbers_of_calls(worths, calls)
    return numbers, calls


def change_calls(worths, numbers, calls):
    """Changes each call that another one is worth more than, to the best one; True if any was changed."""
    changed = False
    for number, places in enumerate(worths):
        highest = numbers[number]
        for kind in places:
            worth = worth_of_call(places[kind], numbers)
            if highest is not None and (worth is None or worth > highest):
                highest = worth
                calls[number] = kind
                changed = True
    return changed


def numbers_of_calls(worths, calls):
    """For each place what the calls from it are worth against the best answers; None where they never end."""
    numbers = [0 if call is None else None for call in calls]
    lowered = True
    while lowered:
        lowered = False
        for number, call in enumerate(calls):
            if call is not None:
                worth = worth_of_call(worths[number][call], numbers)
                lowered = lowered or worth != numbers[number]
                numbers[number] = worth
    return numbers


def worth_of_call(answers, numbers):
    """The least sum of the worth of an answer and the number behind it; None if there is None behind all answers."""
    sums = [worth + numbers[behind] for behind, worth in answers.values() if numbers[behind] is not None]
    return min(sums) if len(sums) > 0 else None


def best_answers(places, numbers):
    """The dict from kinds to the modes with the least sum of worth and number behind.

    A kind is left out if its calls are worth ever more, whatever is answered.
    """
    found = {}
    for kind in places:
        sums = [
            (worth + numbers[behind], mode)
            for mode, (behind, worth) in places[kind].items() if numbers[behind] is not None
        ]
        if len(sums) > 0:
            found[kind] = min(sums)[1]
    return found
