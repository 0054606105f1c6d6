"""Boxes: how far results come in them, which maps keep them, and counts and sums over all of their states."""

from math import lcm

from accountmaps.checks import check_from_nought, check_index, check_modulus
from accountmaps.copies import copied
from accountmaps.errors import InvalidBox, InvalidState
from accountmaps.forms import accounts_in_form, check_form, check_some_maps, results_in_form
from accountmaps.parcels import count_of, first_leaving, hull_of, hull_of_boxes, least_in, negative, parcels_of
from accountmaps.parcels import sum_over
from accountmaps.rests import spread
from accountmaps.tables import rows_at, table_of


def least_of(form, result, box):
    """The least number that a result is in a box, and the first state of the box in which it is so."""
    check_result(form, result, box)
    return min([least_in(rows[result], spans) for spans, rows in parcels_of(table_of(form), box)])


def greatest_of(form, result, box):
    """The greatest number that a result is in a box, and the first state of the box in which it is so."""
    check_result(form, result, box)
    number, state = min([least_in(negative(rows[result]), spans) for spans, rows in parcels_of(table_of(form), box)])
    return -number, state


def hull(form, box):
    """The box of the least and the greatest numbers of all results in a box."""
    check_form(form)
    check_box(box, accounts_in_form(form))
    return hull_of(table_of(form), box)


def leaves(form, box, other):
    """The first state of a box whose results do not lie in another box, None if there is none."""
    check_form(form)
    check_box(box, accounts_in_form(form))
    check_box(other, results_in_form(form))
    return first_leaving(table_of(form), box, other)


def leaving(forms, box):
    """The index of the first map that does not keep a box, and the first state of which it makes one outside."""
    check_some_maps(forms)
    check_box(box, accounts_in_form(forms[0]))
    for index, form in enumerate(forms):
        state = first_leaving(table_of(form), box, box)
        if state is not None:
            return index, state
    return None


def grown(forms, box, rounds):
    """The least box that holds a box and that all maps keep, None if it is not there behind so many rounds."""
    check_some_maps(forms)
    check_box(box, accounts_in_form(forms[0]))
    check_from_nought(rounds)
    tables = [table_of(form) for form in forms]
    found = list(box)
    for _ in range(rounds + 1):
        wider = hull_of_boxes([found] + [hull_of(table, found) for table in tables])
        if wider == found:
            return found
        found = wider
    return None


def how_many(form, box, modulus, rests):
    """How many states of a box have results with some rests by a modulus."""
    check_form(form)
    check_box(box, accounts_in_form(form))
    check_modulus(modulus)
    check_rests_of_results(rests, results_in_form(form), modulus)
    moduli, pieces = table_of(form)
    finer = tuple([lcm(part, modulus) for part in moduli])
    parcels = parcels_of((finer, spread(moduli, pieces, finer)), box)
    return sum([count_of(spans) for spans, rows in parcels if rests_in(spans, rows, modulus) == rests])


def total(form, result, box):
    """The sum of a result over all states of a box."""
    check_result(form, result, box)
    return sum([sum_over(rows[result], spans) for spans, rows in parcels_of(table_of(form), box)])


def check_result(form, result, box):
    """Refuse a form, the index of a result and a box that do not fit."""
    check_form(form)
    check_index(result, results_in_form(form))
    check_box(box, accounts_in_form(form))


def check_box(box, many):
    """Refuse what is no box of so many accounts or results."""
    if len(box) != many or not all([low <= high for low, high in box]):
        raise InvalidBox(copied(box))


def check_rests_of_results(rests, many, modulus):
    """Refuse what is not a rest by a modulus for each of so many results."""
    if len(rests) != many or not all([0 <= rest < modulus for rest in rests]):
        raise InvalidState(list(rests))


def rests_in(spans, rows, modulus):
    """The rests by a modulus that some rows have in all states of a parcel, if they have the same in all."""
    return [number % modulus for number in rows_at(rows, [first for first, _, _ in spans])]
