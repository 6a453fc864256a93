"""Rows of requests, plans for them, and what the best plan would have paid in hindsight."""

from latewise.checks import is_integer_within
from latewise.errors import BadPlan, BadRow
from latewise.systems import FAR, MOST_MODES


def best(system, row):
    """The best of a row: the least cost of all plans for it."""
    check_row(system, row)
    return total_and_history(system, row)[0]


def best_plan(system, row):
    """A plan for a row with the least cost."""
    check_row(system, row)
    history = total_and_history(system, row)[1]
    arrivals = system.arrivals()
    mode = history.pop().index(0)
    plan = []
    known = [{} for costs in arrivals]
    # What a mode has cost is known only from its debts behind the request, so the plan is found from its end.
    for owed in reversed(history):
        plan.append(mode)
        found = known[mode].get(owed)
        if found is None:
            found = cheapest_before(owed, arrivals[mode])
            known[mode][owed] = found
        mode = found
    plan.reverse()
    return plan


def plan_cost(system, row, plan):
    """The cost of a plan for a row: that of all its switches, from mode 0 on, and of all its services."""
    check_row(system, row)
    check_plan(system, row, plan)
    total = 0
    mode = 0
    for kind, chosen in zip(row, plan):
        total += system.switch(mode, chosen) + system.service(kind, chosen)
        mode = chosen
    return total


def debts(system, row):
    """The debts of a row: for each mode the least cost of plans that end in it, less the best; or None."""
    check_row(system, row)
    return debts_told(system, total_and_history(system, row)[1][-1])


def growth(system, some_debts, kind):
    """The pair of the growth at a request of the kind, and of the debts behind it."""
    grown, owed = step(system.ways(kind), debts_owed(some_debts))
    return grown, debts_told(system, owed)


def check_row(system, row):
    """Raises BadRow with the index of the first thing that is no name of a kind, 0 if the row is no list."""
    if not isinstance(row, list):
        raise BadRow(0)
    for index, thing in enumerate(row):
        if thing not in system.names:
            raise BadRow(index)


def can_serve(system, kind, thing):
    """True if the thing, which may be any value, is a mode of the system that can serve the kind."""
    return is_integer_within(thing, 0, system.modes - 1) and system.service(kind, thing) is not None


def first_debts(system):
    """The debts of the empty row."""
    return tuple([0 if mode == 0 else None for mode in range(system.modes)])


def check_plan(system, row, plan):
    """Raises BadPlan if the plan, which may be any value, is none for the row, which is a right one."""
    if not isinstance(plan, list):
        raise BadPlan(0)
    for index, (kind, thing) in enumerate(zip(row, plan)):
        if not can_serve(system, kind, thing):
            raise BadPlan(index)
    if len(row) != len(plan):
        raise BadPlan(min(len(row), len(plan)))


def total_and_history(system, row):
    """The best of a right row, and the list of what is owed ahead of each request, and at last behind the row.

    What is owed is the debts with four numbers always, FAR in place of None: so each mode is reckoned alike.
    """
    total = 0
    owed = debts_owed(first_debts(system))
    history = [owed]
    # The same debts come again and again along a row.
    known = {name: {} for name in system.names}
    for kind in row:
        found = known[kind].get(owed)
        if found is None:
            found = step(system.ways(kind), owed)
            known[kind][owed] = found
        grown, owed = found
        total += grown
        history.append(owed)
    return total, history


def step(ways, owed):
    """The pair of the growth at a request that has these ways, and of what is owed behind it."""
    first, second, third, fourth = owed
    # Written out for the four modes, as all that is asked of rows waits for this line.
    totals = [min(first + a, second + b, third + c, fourth + d) + service for a, b, c, d, service in ways]
    least = min(totals)
    return least, tuple([total - least if total < FAR else FAR for total in totals])


def cheapest_before(owed, costs):
    """The mode with the least sum of what it owes and what the switch from it costs."""
    sums = [debt + cost for debt, cost in zip(owed, costs)]
    return sums.index(min(sums))


def debts_owed(some_debts):
    """What is owed by these debts."""
    return tuple([FAR if debt is None else debt for debt in some_debts] + [FAR] * (MOST_MODES - len(some_debts)))


def debts_told(system, owed):
    """The debts, of all modes of the system, by what is owed."""
    return tuple([debt if debt < FAR else None for debt in owed[:system.modes]])
