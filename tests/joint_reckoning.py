"""Slow, plain reckoning of known requests, running machines and mixtures, after the words of the points."""

from random import Random

from latewise.errors import WiseError
from latewise.mixtures import Mixture
from latewise.rules import Rule
from reckoning import (
    able_modes, cost_of_step, drawn_rule, drawn_system, growth_by_hand, has_dear_loop, spread, start_of,
)


def drawn_follows(draw, system):
    """Follows of a system, drawn."""
    names = list(system.names)
    return {kind: draw.sample(names, draw.randint(1, len(names))) for kind in draw.sample(names, len(names))}


def follows_told(system, follows, last):
    """The kinds that may come behind the last request."""
    return list(system.names) if follows is None or last is None else follows[last]


def known_by_hand(system, known, follows, most=2000):
    """A dict from the tuples of point 16 to lists of ((kind told, mode or None), tuple behind, cost, growth)."""

    def steps(place):
        mode, owed, waiting, last = place
        found = []
        for kind in follows_told(system, follows, last):
            kept = None if follows is None else kind
            if len(waiting) < known:
                found.append(((kind, None), (mode, owed, waiting + (kind,), kept), 0, 0))
                continue
            served, *rest = waiting + (kind,)
            grown, behind = growth_by_hand(system, owed, served)
            for chosen in able_modes(system, served):
                place_behind = (chosen, behind, tuple(rest), kept)
                found.append(((kind, chosen), place_behind, cost_of_step(system, mode, served, chosen), grown))
        return found

    return spread((0, start_of(system), (), None), steps, most)


def following_by_hand(system, rule, follows, most=2000):
    """A dict from the pairs (spot, last request) of a rule to lists of (kind, pair behind, cost, growth)."""
    states = rule.states()

    def steps(place):
        (state, mode, owed), last = place
        found = []
        for kind in follows_told(system, follows, last):
            chosen, following = states[state][kind]
            grown, behind = growth_by_hand(system, owed, kind)
            kept = None if follows is None else kind
            found.append((kind, ((following, chosen, behind), kept), cost_of_step(system, mode, kind, chosen), grown))
        return found

    return spread(((0, 0, start_of(system)), None), steps, most)


def some_way_keeps(steps, first, worth, most=400):
    """True if some way of choosing modes at the places has no loop that is worth more than 0, all ways tried out.

    Of ways that begin alike and have such a loop already, only the beginning is tried; None if this takes too long.
    """
    waiting = [{}]
    for _ in range(most):
        if not waiting:
            return False
        told = waiting.pop()
        decided = spread(first, lambda place: [step for step in steps[place] if told.get((place, step[0][0])) == step[0][1]])
        if has_dear_loop(decided, worth):
            continue
        undecided = [(place, step[0][0]) for place in decided for step in steps[place] if (place, step[0][0]) not in told]
        if not undecided:
            return True
        place, kind = undecided[0]
        waiting += [{**told, (place, kind): step[0][1]} for step in steps[place] if step[0][0] == kind]
    return None


def is_least_of_all_ways(steps, first, least):
    """True if the least factor of all ways of choosing modes at the places is this one; None if that takes too long."""
    scale = 8 * len(steps) + 1
    if least is None:
        some = some_way_keeps(steps, first, lambda step: step[2] - scale * step[3])
        return None if some is None else not some
    top, bottom = least
    kept = some_way_keeps(steps, first, lambda step: bottom * step[2] - top * step[3])
    if not kept or least == (1, 1):
        return kept
    # Worth more than 0 are just those loops which cost at least as much as the factor allows, and something.
    less = some_way_keeps(steps, first, lambda step: scale * (bottom * step[2] - top * step[3]) + step[2])
    return None if less is None else not less


def joint_by_hand(system, rules, most=2000):
    """A dict from the joint spots of rules to lists of (kind, joint spot behind, costs, growth)."""
    tables = [rule.states() for rule in rules]

    def steps(place):
        states, modes, owed = place
        found = []
        for kind in system.kinds():
            grown, behind = growth_by_hand(system, owed, kind)
            told = [table[state][kind] for table, state in zip(tables, states)]
            chosen = tuple(mode for mode, _ in told)
            costs = tuple(cost_of_step(system, mode, kind, new) for mode, new in zip(modes, chosen))
            found.append((kind, (tuple(following for _, following in told), chosen, behind), costs, grown))
        return found

    nothing = (0,) * len(rules)
    return spread((nothing, nothing, start_of(system)), steps, most)


def weigh_by_hand(joint, weights):
    """The joint spots with the sum of each weight times the cost, and the sum of the weights times the growth."""
    return {
        place: [(kind, behind, sum(w * c for w, c in zip(weights, costs)), sum(weights) * grown)
                for kind, behind, costs, grown in steps]
        for place, steps in joint.items()
    }


def follow_joint(system, rules, row):
    """The joint spot behind a row, what each rule has paid, and the best."""
    tables = [rule.states() for rule in rules]
    states, modes, owed, best = [0] * len(rules), [0] * len(rules), start_of(system), 0
    paid = [0] * len(rules)
    for kind in row:
        grown, owed = growth_by_hand(system, owed, kind)
        best += grown
        for at, table in enumerate(tables):
            chosen, states[at] = table[states[at]][kind]
            paid[at] += cost_of_step(system, modes[at], kind, chosen)
            modes[at] = chosen
    return (tuple(states), tuple(modes), owed), paid, best


def follow_joint_loop(system, rules, lead, loop):
    """What each rule pays on a loop, and its growth."""
    ahead, paid, best = follow_joint(system, rules, lead)
    behind, whole, whole_best = follow_joint(system, rules, lead + loop)
    assert loop and ahead == behind, (lead, loop)
    return [all_paid - before for all_paid, before in zip(whole, paid)], whole_best - best


def drawn_rules(draw, system, many, most=3):
    """A list of so many different rules of at most so many states, drawn; some of them stay in a mode, or nearly."""
    found = []
    while len(found) < many:
        rule = drawn_rule(draw, system, draw.randint(1, most))
        if draw.randrange(3) == 0:
            best = {kind: draw.choice(able_modes(system, kind)) for kind in system.names}
            rule = Rule([{kind: (best[kind], step[1]) for kind, step in state.items()} for state in rule.states()])
        if rule not in found:
            found.append(rule)
        elif draw.randrange(20) == 0:
            return None
    return found


def drawn_lists(seed, many, sizes, most=60, states=3):
    """So many systems of each size with lists of one to three rules that have few joint spots, and these."""
    draw = Random(seed)
    for modes, kinds in sizes:
        found = 0
        for _ in range(40 * many):
            system = drawn_system(draw, modes, kinds, draw.choice([3, 5, 100]))
            rules = drawn_rules(draw, system, draw.randint(1, 3), states)
            joint = rules and joint_by_hand(system, rules, most)
            if joint and found < many:
                found += 1
                yield system, rules, joint


def drawn_mixtures(seed, many, sizes, most=60):
    """So many systems of each size with mixtures that have few joint spots, and these."""
    draw = Random(seed + 1)
    for system, rules, joint in drawn_lists(seed, many, sizes, most):
        weights = [draw.choice([1, 2, 3, 7, 10 ** 21 + 3]) for _ in rules]
        yield system, Mixture(list(zip(weights, rules))), weigh_by_hand(joint, weights)


def outcome(call):
    """What a call returns; or, if it raises an error of the package, its class and attributes."""
    try:
        return call()
    except WiseError as error:
        return [type(error), vars(error)]
