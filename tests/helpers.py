"""What several tests need: sample systems, odd values, and costs worked out without the program."""

from itertools import product

from latewise.systems import System

ONE_MODE = System([[0]], {"a": [3]})
TWO_MODES = System([[0, 1], [2, 0]], {"q": [1, 0], "p": [0, 2]})
# No switch by way of another mode is ever made at one request, so a detour over two requests may be cheaper.
THREE_MODES = System([[0, 1, 4], [4, 0, 1], [4, 4, 0]], {"z": [0, 0, 0], "x": [None, None, 0]})
# Mode 1 serves nothing, and no mode serves everything.
IDLE_MODE = System([[0, 0, 2], [0, 0, 1], [4, 0, 0]], {"a": [1, None, None], "b": [None, None, 4], "c": [4, None, 0]})
FOUR_MODES = System(
    [[0, 4, 0, 2], [1, 0, 3, 4], [0, 2, 0, 1], [3, 0, 4, 0]],
    {"a": [4, None, 1, 0], "bb": [None, 0, 3, 2], "ccc": [2, 2, None, 4], "abcdefgh": [None, 4, None, 0]},
)
SYSTEMS = [ONE_MODE, TWO_MODES, THREE_MODES, IDLE_MODE, FOUR_MODES]


def deep_list(levels=50):
    """A list that is nested so many levels deep."""
    value = []
    for _ in range(levels - 1):
        value = [value]
    return value


def deep_dict(levels=50):
    """A dict that is nested so many levels deep."""
    value = {}
    for _ in range(levels - 1):
        value = {"a": value}
    return value


def deep_tuple(levels=50):
    """A tuple that is nested so many levels deep."""
    value = ()
    for _ in range(levels - 1):
        value = (value,)
    return value


def odd_values():
    """New values of all kinds: none of them is a right argument, or a right part of one, but for None as a cost."""
    plain = [None, True, False, -1, 10 ** 5000, "", "p", "q", "ab", (), (0,), [], [None], {}, {"p": None}, {(): 0}]
    return plain + [deep_list(), deep_dict(), deep_tuple()]


def all_rows(system, longest):
    """All rows of a system with at most so many requests."""
    return [list(row) for many in range(longest + 1) for row in product(system.names, repeat=many)]


def all_plans(system, row):
    """All plans for a row."""
    kinds = system.kinds()
    able = [[mode for mode in range(system.modes) if kinds[name][mode] is not None] for name in row]
    return [list(plan) for plan in product(*able)]


def cost_by_hand(system, row, plan):
    """The cost of a right plan, as the document tells it."""
    switches = system.switches()
    kinds = system.kinds()
    ahead = [0] + plan
    return sum(switches[ahead[k]][plan[k]] + kinds[row[k]][plan[k]] for k in range(len(row)))


def costs_by_ending(system, row):
    """The least cost of all plans that end in each mode, None where there are none, all plans tried out."""
    found = [None] * system.modes
    for plan in all_plans(system, row):
        cost = cost_by_hand(system, row, plan)
        end = ([0] + plan)[-1]
        if found[end] is None or cost < found[end]:
            found[end] = cost
    return found


def debts_by_hand(system, row):
    """The debts of a row, all plans tried out."""
    costs = costs_by_ending(system, row)
    best = min(cost for cost in costs if cost is not None)
    return tuple(None if cost is None else cost - best for cost in costs)


def best_by_hand(system, row):
    """The best of a row, all plans tried out."""
    return min(cost for cost in costs_by_ending(system, row) if cost is not None)


def best_from_behind(system, row):
    """The best of a long row: for each mode, what the rest of the row costs from it, from the last request on."""
    switches = system.switches()
    kinds = system.kinds()
    rest = [0] * system.modes
    for name in reversed(row):
        able = [mode for mode in range(system.modes) if kinds[name][mode] is not None]
        rest = [min(switches[k][mode] + kinds[name][mode] + rest[mode] for mode in able) for k in range(system.modes)]
    return rest[0]


def long_row(system, many):
    """A row of so many requests, without a short period."""
    row = []
    number = 7
    for _ in range(many):
        number = (number * 1103515245 + 12345) % 2 ** 31
        row.append(system.names[(number >> 16) % len(system.names)])
    return row


def wrong_factors():
    """New values that are no factors, such that look like some among them."""
    near = [
        (1, 2), (2, 2), (4, 2), (0, 1), (0, 0), (1, 0), (-2, -1), (2, -1), (-1, 1), (2,), (2, 1, 1), [2, 1], {2: 1},
        (True, 1), (1, True), (2, True), (True, True), (False, 1), ("2", 1), (2, None), ((2, 1), 1), ([2], 1), "21", 2,
        (10 ** 400, 10 ** 400), (10 ** 400, 5), (3 * 10 ** 400, 2 * 10 ** 400), (10 ** 400 - 1, 10 ** 400),
    ]
    return odd_values() + near
