"""What can be reached: goals by shifts, and rests by maps."""

from accountmaps.checks import check_modulus, check_state
from accountmaps.courses import first_courses
from accountmaps.errors import InvalidModulus, InvalidNumber
from accountmaps.forms import accounts_in_form, check_map, check_maps
from accountmaps.lattices import bar_of, in_steps, often_each, weighted
from accountmaps.rests import product_of, rests_of
from accountmaps.tables import results_at, same_rows, table_of


def shift(form):
    """The shift of a form of a map, None if it is none."""
    check_map(form, accounts_in_form(form))
    many = accounts_in_form(form)
    _, pieces = table_of(form)
    if len(pieces) > 1 or [row[:-1] for row in pieces[0]] != [row[:-1] for row in same_rows(many)]:
        return None
    return [row[-1] for row in pieces[0]]


def way(shifts, goal):
    """How often each shift is added, below 0 taken off, so that the sum is a goal; None if there is no way."""
    check_shifts(shifts, [goal])
    return often_each(shifts, goal)


def against(shifts, goal):
    """The weights and the modulus that show that there is no way, None if there is one."""
    check_shifts(shifts, [goal])
    return bar_of(shifts, goal)


def judge_against(shifts, goal, told):
    """Whether weights and a modulus show that there is no way."""
    check_shifts(shifts, [goal])
    weights, modulus = told
    if len(weights) != len(goal):
        return False
    sums, wished = [weighted(weights, row) for row in shifts], weighted(weights, goal)
    if modulus == 0:
        return not any(sums) and wished != 0
    return modulus > 1 and not any([part % modulus for part in sums]) and wished % modulus != 0


def steps_of(shifts):
    """The least basis of all sums of shifts, each as often as one likes, also taken off."""
    check_shifts(shifts, [])
    return in_steps(shifts)


def rests_reached(forms, state, modulus):
    """All rests by a modulus of the states that maps make of a state, or of one with the same rests."""
    check_reaching(forms, [state], modulus)
    return [list(rests) for rests in sorted(roads_from(forms, state, modulus))]


def road(forms, state, goal, modulus):
    """The first indexes of maps that lead from the rests of a state to those of a goal, None if there are none."""
    check_reaching(forms, [state, goal], modulus)
    return roads_from(forms, state, modulus).get(rests_of(goal, modulus))


def check_shifts(shifts, goals):
    """Refuse shifts and goals that are not as long as the first shift, or no shift."""
    if not shifts:
        raise InvalidNumber(0)
    for row in shifts + goals:
        check_state(len(shifts[0]), row)


def check_reaching(forms, states, modulus):
    """Refuse maps, states and a modulus that do not fit, or no maps."""
    check_maps(forms)
    if forms:
        for state in states:
            check_state(accounts_in_form(forms[0]), state)
    check_modulus(modulus)
    for form in forms:
        moduli, _ = table_of(form)
        if any([modulus % part for part in moduli]):
            raise InvalidModulus(modulus)
    if not forms:
        raise InvalidNumber(0)


def roads_from(forms, state, modulus):
    """The first road to each tuple of rests that can be reached."""
    tables = [table_of(form) for form in forms]
    every = list(range(len(tables)))
    most = product_of([modulus] * len(state))
    return first_courses(lambda index, rests: rests_of(results_at(tables[index], rests), modulus),
                         rests_of(state, modulus), every, most)
