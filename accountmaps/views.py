"""What a report tells of what maps do: views of maps, and looks behind courses of maps."""

from accountmaps.checks import check_from_nought, check_moduli, check_state
from accountmaps.courses import first_courses
from accountmaps.errors import InvalidNumber
from accountmaps.forms import accounts_in_form, check_form, check_form_with, check_map, results_in_form
from accountmaps.joining import table_behind
from accountmaps.ruling import is_ruled, ruled_with
from accountmaps.spots import parted_states, spots_of, stacked
from accountmaps.tables import form_of_table, results_at, table_of


def closes(report, form):
    """Whether what a report tells behind a map is told by what it tells ahead."""
    check_looks(report, [form])
    looks = table_of(report)
    return parted_states(looks, table_behind(table_of(form), looks)) is None


def view(report, form, moduli):
    """A form with just these moduli that makes of a report's results those behind a map, None if there is none."""
    check_looks(report, [form])
    check_state(results_in_form(report), moduli)
    check_moduli(moduli)
    pieces = ruled_with(spots_behind(report, form), moduli)
    return None if pieces is None else form_of_table((moduli, pieces))


def judge_view(report, form, told_form):
    """Whether a form makes of a report's results those behind a map."""
    check_looks(report, [form])
    check_form_with(told_form, results_in_form(report), results_in_form(report))
    return is_ruled(spots_behind(report, form), table_of(told_form))


def looked(report, forms, deep):
    """The forms of a report's results behind all courses of at most so many maps, in the order of the courses."""
    check_looks(report, forms)
    check_maps_any(forms)
    check_from_nought(deep)
    tables, lot = [table_of(form) for form in forms], [table_of(report)]
    found = list(lot)
    for _ in range(deep):
        lot = looks_behind(tables, lot)
        found.extend(lot)
    return [form_of_table(table) for table in found]


def depth(report, forms, most):
    """The least number of maps behind which all looks tell those one map further on, None if none up to the bound."""
    check_looks(report, forms)
    check_maps_any(forms)
    check_from_nought(most)
    tables, many = [table_of(form) for form in forms], accounts_in_form(report)
    lot, so_far = [table_of(report)], []
    for deep in range(most + 1):
        so_far.extend(lot)
        lot = looks_behind(tables, lot)
        if parted_states(stacked(so_far, many), stacked(lot, many)) is None:
            return deep
    return None


def first_seen(report, forms, state, other, most):
    """The first course of at most so many maps behind which a report tells two states apart, None if there is none."""
    check_looks(report, forms)
    check_maps_any(forms)
    check_state(accounts_in_form(report), state)
    check_state(accounts_in_form(report), other)
    check_from_nought(most)
    looks = table_of(report)
    courses = courses_from((tuple(state), tuple(other)), forms, most)
    for one, two in courses:
        if results_at(looks, one) != results_at(looks, two):
            return courses[(one, two)]
    return None


def wish(report, forms, state, results, most):
    """The first course of at most so many maps behind which a report has some results, None if there is none."""
    check_looks(report, forms)
    check_maps_any(forms)
    check_state(accounts_in_form(report), state)
    check_state(results_in_form(report), results)
    check_from_nought(most)
    looks = table_of(report)
    courses = courses_from((tuple(state),), forms, most)
    for states in courses:
        if results_at(looks, states[0]) == tuple(results):
            return courses[states]
    return None


def check_looks(report, forms):
    """Refuse a report that is no form, then the first that is no form of a map of its accounts."""
    check_form(report)
    for form in forms:
        check_map(form, accounts_in_form(report))


def check_maps_any(forms):
    """Refuse a list without a map."""
    if not forms:
        raise InvalidNumber(0)


def spots_behind(report, form):
    """The spots [spots.py] of what a report tells, and of what it tells behind a map."""
    looks = table_of(report)
    _, spots = spots_of(looks, table_behind(table_of(form), looks))
    return spots


def looks_behind(tables, looks):
    """The tables of looks behind each of some maps, in the order of the maps and then of the looks."""
    return [table_behind(table, look) for table in tables for look in looks]


def courses_from(states, forms, most):
    """The first course of at most so many maps to all that they make of some states at once."""
    tables = [table_of(form) for form in forms]
    every = list(range(len(tables)))
    return first_courses(lambda index, lot: tuple([results_at(tables[index], state) for state in lot]),
                         states, every, most)
