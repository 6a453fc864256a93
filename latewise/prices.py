"""Prices: the least average that any way of choosing modes has by a source, and what a source shows of a system.

The pairs (state of the source, mode) are numbered by state and mode. Offers are a list that has, for each of them, a
list of tuples (kind, part, worths), one for each kind of the state; worths are a dict from the modes that can serve it
to the sum of switch, service and the price behind, all of this multiplied by one scale.
"""

from latewise.averages import best_average
from latewise.chains import ends_of, rates_and_offsets
from latewise.checks import is_fraction, is_integer, lowest_terms
from latewise.hindsight import can_serve
from latewise.ratios import is_less, with_one_bottom
from latewise.sources import check_source


def least_average(system, source):
    """The least average of a system by a source."""
    return settled(system, source)[0]


def prices_with_orders(system, source):
    """A pair of prices for the least average, and of orders that keep them."""
    some_average, some_prices, orders = settled(system, source)
    pairs = pairs_of(system, source)
    return (
        {pair: price for pair, price in zip(pairs, some_prices)},
        {pair: dict(order) for pair, order in zip(pairs, orders)},
    )


def are_prices(system, source, fraction, some_prices):
    """True if the value some_prices is prices for a fraction."""
    check_source(system, source)
    if not are_fractions(system, source, fraction, some_prices):
        return False
    limits, offers = limits_and_offers(system, source, fraction, some_prices)
    return are_reached(limits, offers)


def keep_prices(system, source, fraction, some_prices, orders):
    """True if the value orders is orders that keep the value some_prices, and this is prices for a fraction."""
    check_source(system, source)
    if not are_fractions(system, source, fraction, some_prices):
        return False
    limits, offers = limits_and_offers(system, source, fraction, some_prices)
    pairs = pairs_of(system, source)
    if not are_reached(limits, offers) or not are_orders(pairs, offers, orders):
        return False
    return are_kept_by(limits, offers, [orders[pair] for pair in pairs])


def shown_factor(system, source):
    """What a source shows of a system, or None."""
    best = best_average(system, source)
    least = least_average(system, source)
    if best == (0, 1):
        return (1, 1) if least == (0, 1) else None
    return lowest_terms(least[0] * best[1], least[1] * best[0])


def pairs_of(system, source):
    """The list of all pairs (state of the source, mode)."""
    return [(place, mode) for place in range(len(source.states())) for mode in range(system.modes)]


def settled(system, source):
    """The least average, and the lists of prices for it and of orders that keep them, by the numbers of the pairs."""
    check_source(system, source)
    orders = first_orders(system, source)
    # Orders never come again: of two that are settled one behind the other, the later ones have a lesser rate, or
    # they have the same end and rate, and no greater offsets, but lesser ones at some pair.
    while True:
        edges = edges_of(system, source, orders)
        told = rates_and_offsets(edges)
        if len(ends_of(edges)) > 1:
            orders = led_to_one_end(system, orders, ends_of(edges), told)
            told = rates_and_offsets(edges_of(system, source, orders))
        offsets = [offset for rate, offset in told]
        tops, scale = with_one_bottom(offsets)
        better = improved(orders, offers_of(system, source, tops, scale))
        if better == orders:
            return told[0][0], offsets, orders
        orders = better


def first_orders(system, source):
    """Orders that do not depend on the mode, and so have one end only."""
    firsts = {
        kind: [mode for mode in range(system.modes) if can_serve(system, kind, mode)][0] for kind in system.names
    }
    return [{kind: firsts[kind] for kind, part, behind in source.draws(place)}
            for place, mode in pairs_of(system, source)]


def edges_of(system, source, orders):
    """The edges of the chain of all pairs by orders."""
    return [
        [
            (kind, behind * system.modes + order[kind], system.price(mode, kind, order[kind]), part)
            for kind, part, behind in source.draws(place)
        ]
        for (place, mode), order in zip(pairs_of(system, source), orders)
    ]


def led_to_one_end(system, orders, ends, told):
    """The orders of an end with the least rate; all other pairs do what a pair of this end with the same state does."""
    cheapest = ends[0]
    for end in ends:
        if is_less(told[end[0]][0], told[cheapest[0]][0]):
            cheapest = end
    # Each state of the source is met in an end, as it can be reached from each other one.
    leaders = {number // system.modes: number for number in cheapest}
    return [
        order if number in cheapest else orders[leaders[number // system.modes]]
        for number, order in enumerate(orders)
    ]


def offers_of(system, source, tops, scale):
    """The offers for prices, these and all costs multiplied by the scale."""
    return [
        [
            (kind, part, worths_of(system, mode, kind, tops[behind * system.modes:], scale))
            for kind, part, behind in source.draws(place)
        ]
        for place, mode in pairs_of(system, source)
    ]


def worths_of(system, mode, kind, tops, scale):
    """The worths of an offer, the tops being the prices behind it, from mode 0 on."""
    able = [chosen for chosen in range(system.modes) if can_serve(system, kind, chosen)]
    return {chosen: scale * system.price(mode, kind, chosen) + tops[chosen] for chosen in able}


def improved(orders, offers):
    """The orders with the least worth of each offer; a mode that has it is not changed."""
    return [
        {kind: least_mode(worths, order[kind]) for kind, part, worths in some}
        for order, some in zip(orders, offers)
    ]


def least_mode(worths, ordered):
    """A mode with the least worth: the ordered one, if it has it."""
    least = min(list(worths.values()))
    return [mode for mode in [ordered, *worths] if worths[mode] == least][0]


def are_fractions(system, source, fraction, value):
    """True if the value is a dict from all pairs to fractions, and the first one is a fraction, too."""
    pairs = pairs_of(system, source)
    if not is_fraction(fraction) or not isinstance(value, dict) or len(value) != len(pairs):
        return False
    return all([pair in value and is_fraction(value[pair]) for pair in pairs])


def limits_and_offers(system, source, fraction, some_prices):
    """The fraction plus the price of each pair, and the offers, all of this multiplied by one scale."""
    tops, scale = with_one_bottom([fraction] + [some_prices[pair] for pair in pairs_of(system, source)])
    return [tops[0] + top for top in tops[1:]], offers_of(system, source, tops[1:], scale)


def are_reached(limits, offers):
    """True if the least worths of each pair are on average at least its limit."""
    return all([
        sum([part * (min(list(worths.values())) - limit) for kind, part, worths in some]) >= 0
        for limit, some in zip(limits, offers)
    ])


def are_kept_by(limits, offers, orders):
    """True if the ordered worths of each pair are on average at most its limit."""
    return all([
        sum([part * (worths[order[kind]] - limit) for kind, part, worths in some]) <= 0
        for limit, some, order in zip(limits, offers, orders)
    ])


def are_orders(pairs, offers, value):
    """True if the value is a dict from all pairs to dicts from just their kinds to modes that can serve them."""
    if not isinstance(value, dict) or len(value) != len(pairs):
        return False
    return all([pair in value and is_order(some, value[pair]) for pair, some in zip(pairs, offers)])


def is_order(some, value):
    """True if the value is a dict from just the kinds of these offers to modes that can serve them."""
    if not isinstance(value, dict) or len(value) != len(some):
        return False
    return all([kind in value and is_integer(value[kind]) and value[kind] in worths for kind, part, worths in some])
