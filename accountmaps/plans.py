"""Plans: scripts of a house by their names, done one behind the other."""

from accountmaps.checks import check_from_nought, check_known, check_state
from accountmaps.courses import first_courses
from accountmaps.deeds import map_of
from accountmaps.errors import InvalidNumber
from accountmaps.forms import check_map
from accountmaps.joining import table_behind
from accountmaps.reckoning import Amounts, behind, laid_out_scripts
from accountmaps.tables import fixed, same_table, table_of


def fewest(house, names, state, goal, most):
    """The first of the plans with at most so many names that make of a state a goal, None if there is none."""
    check_scripts(house, names)
    check_states(house, [state, goal])
    check_from_nought(most)
    return first_courses(state_step(house), tuple(state), sorted(names), most).get(tuple(goal))


def fewest_map(house, names, form, most):
    """The first of the plans with at most so many names whose map has a form, None if there is none."""
    check_scripts(house, names)
    check_map(form, len(house.accounts))
    check_from_nought(most)
    return map_plans(house, tables_of(house, names), most).get(fixed(table_of(form)))


def cheapest(house, names, costs, state, goal, most):
    """The least cost of a plan that makes of a state a goal, and the first plan of this cost; None if there is none."""
    check_scripts(house, names)
    if len(costs) != len(names):
        raise InvalidNumber(list(costs))
    for cost in costs:
        check_from_nought(cost)
    check_states(house, [state, goal])
    check_from_nought(most)
    return cheapest_plan(state_step(house), dict(zip(names, costs)), tuple(state), tuple(goal), most)


def reached(house, names, state, most):
    """How many unlike states plans with at most so many names make of a state."""
    check_scripts(house, names)
    check_states(house, [state])
    check_from_nought(most)
    return len(first_courses(state_step(house), tuple(state), sorted(names), most))


def unlike_maps(house, names, most):
    """How many unlike maps plans with at most so many names have."""
    check_scripts(house, names)
    check_from_nought(most)
    return len(map_plans(house, tables_of(house, names), most))


def needless(house, names, most):
    """The names whose map is that of a plan with at most so many of the other names, ascending."""
    check_scripts(house, names)
    check_from_nought(most)
    tables = tables_of(house, names)
    found = []
    for name in sorted(names):
        others = {other: tables[other] for other in names if other != name}
        if fixed(tables[name]) in map_plans(house, others, most):
            found.append(name)
    return found


def check_scripts(house, names):
    """Refuse the first name that is no script of a house."""
    check_known([name for name, _ in house.scripts], names)


def check_states(house, states):
    """Refuse the first state that is not as long as the accounts of a house."""
    for state in states:
        check_state(len(house.accounts), state)


def state_step(house):
    """The step by which a name makes of a state, as a tuple, the next one."""
    accounts, known = house.accounts, laid_out_scripts(house.scripts)
    return lambda name, state: tuple(behind(Amounts(), known[name], dict(zip(accounts, state))).values())


def tables_of(house, names):
    """The tables of the maps of some scripts, by their names."""
    return {name: table_of(map_of(house, [("do", name)])) for name in names}


def map_plans(house, tables, most):
    """The first plan, with at most so many of the names of some tables, of each map that such plans have."""
    start = fixed(same_table(len(house.accounts)))
    return first_courses(lambda name, table: fixed(table_behind(table, tables[name])), start, sorted(tables), most)


def cheapest_plan(step, costs, start, goal, most):
    """The tuple (cost, plan) of the first of the cheapest plans that lead to a goal, None if there is none."""
    lot = {start: (0, [])}
    best = lot.get(goal)
    for _ in range(most):
        lot = one_longer(step, costs, lot)
        if goal in lot and (best is None or lot[goal][0] < best[0]):
            best = lot[goal]
    return best


def one_longer(step, costs, lot):
    """The tuple (cost, plan) of each thing to which plans lead that are one name longer than those of a lot.

    Of all plans of one length that lead to a thing, the first of the cheapest ones alone has to go on.
    """
    found = {}
    for thing in lot:
        cost, plan = lot[thing]
        for name in costs:
            then, told = step(name, thing), (cost + costs[name], plan + [name])
            if then not in found or told < found[then]:
                found[then] = told
    return found
