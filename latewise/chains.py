"""Chains: places that lead to each other by chance, and what they cost on average.

The edges of a chain are a list that has, for each number of a place, a list of tuples (label, number behind, cost,
part); an edge is taken with the chance of its part divided by the sum of the parts of all edges there. The rate of a
place is that of the place behind the next edge, on average; its rate and its offset are the cost of the next edge and
the offset of the place behind it, on average.
"""

from latewise.checks import lowest_terms
from latewise.ratios import weighed_sum, with_one_bottom


def rates_and_offsets(edges):
    """The list of the pairs (rate, offset) of all places; the offset is 0 at the first place of each end."""
    told = {}
    for end in ends_of(edges):
        told.update(told_of_end(edges, end))
    ahead = told_ahead(edges, told)
    return [told[number] if number in told else ahead[number] for number in range(len(edges))]


def ends_of(edges):
    """The ends, lists of places in ascending order: each place of an end leads to all of them, and to no others."""
    reached = [reached_from(edges, number) for number in range(len(edges))]
    return [
        found for number, found in enumerate(reached)
        if found[0] == number and all([reached[other] == found for other in found])
    ]


def reached_from(edges, first):
    """The list, in ascending order, of the first place and of all that can be reached from it."""
    found = {first: True}
    waiting = [first]
    while len(waiting) > 0:
        for edge in edges[waiting.pop()]:
            if edge[1] not in found:
                found[edge[1]] = True
                waiting.append(edge[1])
    return sorted(found)


def told_of_end(edges, end):
    """A dict from the places of an end to pairs (rate, offset), the offset of the first one being 0."""
    first, *others = end
    # All other offsets are a first number less the rate times a second one, and these two are solved for each place.
    bottom, solutions = solved([
        balance(edges[number], number, others) + [paid_in_all(edges[number]), parts_in_all(edges[number])]
        for number in others
    ])
    pairs = {first: [0, 0]}
    pairs.update({number: pair for number, pair in zip(others, solutions)})
    paid = bottom * paid_in_all(edges[first]) + sum([edge[3] * pairs[edge[1]][0] for edge in edges[first]])
    passed = bottom * parts_in_all(edges[first]) + sum([edge[3] * pairs[edge[1]][1] for edge in edges[first]])
    rate = lowest_terms(paid, passed)
    return {
        number: (rate, lowest_terms(pairs[number][0] * rate[1] - rate[0] * pairs[number][1], bottom * rate[1]))
        for number in end
    }


def told_ahead(edges, told):
    """A dict from the places that are in no end to pairs (rate, offset), if those of all ends are told."""
    ahead = [number for number in range(len(edges)) if number not in told]
    rates = fractions_solved(edges, ahead, [
        weighed_sum([(edge[3], told[edge[1]][0]) for edge in edges[number] if edge[1] in told]) for number in ahead
    ])
    sums = [
        weighed_sum([
            (paid_in_all(edges[number]), (1, 1)), (-parts_in_all(edges[number]), rate),
            *[(edge[3], told[edge[1]][1]) for edge in edges[number] if edge[1] in told],
        ])
        for number, rate in zip(ahead, rates)
    ]
    offsets = fractions_solved(edges, ahead, sums)
    return {number: (rate, offset) for number, rate, offset in zip(ahead, rates, offsets)}


def paid_in_all(steps):
    """The sum of each part times the cost of its edge."""
    return sum([edge[3] * edge[2] for edge in steps])


def parts_in_all(steps):
    """The sum of all parts."""
    return sum([edge[3] for edge in steps])


def balance(steps, number, unknown):
    """For each unknown place how often its number is counted in the balance of a place with these steps.

    The balance is the number of the place times all parts, less the number behind each edge times its part.
    """
    row = [0 for other in unknown]
    columns = {other: at for at, other in enumerate(unknown)}
    row[columns[number]] = parts_in_all(steps)
    for edge in steps:
        if edge[1] in columns:
            row[columns[edge[1]]] -= edge[3]
    return row


def fractions_solved(edges, unknown, sums):
    """The fractions that make the balances of unknown places these sums, if all other places count as 0."""
    tops, scale = with_one_bottom(sums)
    bottom, solutions = solved([balance(edges[number], number, unknown) + [top] for number, top in zip(unknown, tops)])
    return [lowest_terms(solution[0], bottom * scale) for solution in solutions]


def solved(rows):
    """A pair of an integer and of a list: divided by it, the items of the list, one for each row, solve the rows.

    A row has an integer for each unknown, as many as there are rows, and then the sums that are to come out, as many
    as each item of the list has numbers.
    """
    kept = []
    pivot = 1
    # Each row is divided by the pivot before, and this comes out even: so the integers stay small. In chains no pivot
    # is 0, as from all unknown places others are reached.
    while len(rows) > 0:
        top, *rest = rows
        rows = [shortened(row, top, pivot) for row in rest]
        kept.append(top)
        pivot = top[0]
    solutions = []
    for row in reversed(kept):
        solutions = [solution_of(row, pivot, solutions)] + solutions
    return pivot, solutions


def shortened(row, top, divisor):
    """The row without its first number, which is brought to 0 by means of the top one."""
    first = row[0]
    pivot = top[0]
    return [(pivot * one - first * other) // divisor for one, other in zip(row[1:], top[1:])]


def solution_of(row, bottom, later):
    """What solves a row if its later unknowns are told, all of it multiplied by the bottom."""
    many = len(later) + 1
    return [
        (bottom * wanted - sum([part * solution[at] for part, solution in zip(row[1:many], later)])) // row[0]
        for at, wanted in enumerate(row[many:])
    ]
