"""Rows of requests, plans for them, and what the best plan would have paid in hindsight."""

from latewise.checks import is_integer_within
from latewise.errors import BadPlan, BadRow


def best(system, row):
    """The best of a row: the least cost of all plans for it."""
    return best_and_debts(system, row)[0]


def best_plan(system, row):
    """A plan for a row with the least cost."""
    check_row(system, row)
    history = debts_ahead(system, row)
    mode = history.pop().index(0)
    plan = []
    # What a mode has cost is known only from its debts behind the request, so the plan is found from its end.
    for some_debts in reversed(history):
        plan.append(mode)
        mode = cheapest_before(system, some_debts, mode)
    plan.reverse()
    return plan


def plan_cost(system, row, plan):
    """The cost of a plan for a row: that of all its switches, from mode 0 on, and of all its services."""
    check_row(system, row)
    check_plan(system, row, plan)
    total = 0
    mode = 0
    for kind, chosen in zip(row, plan):
        total += system.switch(mode, chosen) + system.service(kind, chosen)
        mode = chosen
    return total


def debts(system, row):
    """The debts of a row: for each mode the least cost of plans that end in it, less the best; or None."""
    return best_and_debts(system, row)[1]


def growth(system, some_debts, kind):
    """The pair of the growth at a request of the kind, and of the debts behind it."""
    totals = [cost_of_ending(system, some_debts, kind, mode) for mode in range(system.modes)]
    least = min([total for total in totals if total is not None])
    return least, tuple([None if total is None else total - least for total in totals])


def check_row(system, row):
    """Raises BadRow with the index of the first thing that is no name of a kind, 0 if the row is no list."""
    if not isinstance(row, list):
        raise BadRow(0)
    for index, thing in enumerate(row):
        if thing not in system.names:
            raise BadRow(index)


def can_serve(system, kind, thing):
    """True if the thing, which may be any value, is a mode of the system that can serve the kind."""
    return is_integer_within(thing, 0, system.modes - 1) and system.service(kind, thing) is not None


def first_debts(system):
    """The debts of the empty row."""
    return tuple([0 if mode == 0 else None for mode in range(system.modes)])


def check_plan(system, row, plan):
    """Raises BadPlan if the plan, which may be any value, is none for the row, which is a right one."""
    if not isinstance(plan, list):
        raise BadPlan(0)
    for index, (kind, thing) in enumerate(zip(row, plan)):
        if not can_serve(system, kind, thing):
            raise BadPlan(index)
    if len(row) != len(plan):
        raise BadPlan(min(len(row), len(plan)))


def best_and_debts(system, row):
    """The pair of the best of a row and of its debts."""
    check_row(system, row)
    total = 0
    some_debts = first_debts(system)
    for kind in row:
        grown, some_debts = growth(system, some_debts, kind)
        total += grown
    return total, some_debts


def debts_ahead(system, row):
    """The list of the debts ahead of each request of a right row, and at last those of the whole row."""
    history = [first_debts(system)]
    for kind in row:
        history.append(growth(system, history[-1], kind)[1])
    return history


def cost_of_ending(system, some_debts, kind, mode):
    """The least cost, above the best so far, of serving the kind in the mode; None if it cannot serve it."""
    service = system.service(kind, mode)
    if service is None:
        return None
    before = cheapest_before(system, some_debts, mode)
    return some_debts[before] + system.switch(before, mode) + service


def cheapest_before(system, some_debts, mode):
    """The mode with the least debt and switch to the given mode."""
    reached = [first for first in range(system.modes) if some_debts[first] is not None]
    return min(reached, key=lambda one: some_debts[one] + system.switch(one, mode))
