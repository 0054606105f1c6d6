"""Weighted sums that no map ever changes."""

from accountmaps.checks import check_modulus, check_state
from accountmaps.firsts import first_with_results
from accountmaps.forms import accounts_in_form, check_some_maps
from accountmaps.joining import turns_of
from accountmaps.lattices import in_steps, unit, weighted, without_sum
from accountmaps.rests import all_rests, least_way, rests_of
from accountmaps.tables import difference, rows_at, same_table, table_of


def kept(forms):
    """The least basis, in steps, of all weights whose sum no map ever changes."""
    check_some_maps(forms)
    many = accounts_in_form(forms[0])
    return without_sum(all_changes(forms), many)


def kept_rests(forms, modulus):
    """All weights, rests by a modulus, by which the sum's rest is never changed by any map."""
    check_some_maps(forms)
    check_modulus(modulus)
    many = accounts_in_form(forms[0])
    wholes = [[modulus * part for part in unit(place, many)] for place in range(many)]
    basis = in_steps(wholes + all_turns(forms, modulus))
    return [list(weights) for weights in all_rests([modulus] * many)
            if not any([weighted(weights, row) % modulus for row in basis])]


def is_kept(forms, weights):
    """Whether the sum by some weights is never changed."""
    check_some_maps(forms)
    check_state(accounts_in_form(forms[0]), weights)
    return not any([weighted(weights, change) for change in all_changes(forms)])


def changing(forms, weights):
    """The index of the first map that changes the sum by some weights, and the first state in which it does."""
    check_some_maps(forms)
    check_state(accounts_in_form(forms[0]), weights)
    for index, form in enumerate(forms):
        state = first_with_results(sum_of_changes(form, weights))
        if state is not None:
            return index, state
    return None


def changes_of(form):
    """The table of what a map adds to each account."""
    return difference(table_of(form), same_table(accounts_in_form(form)))


def all_changes(forms):
    """The unlike lists of integers by which maps change states: of each piece how the changes grow with each
    account, and what is added. A sum that is never changed has the sum 0 of each of them."""
    found = {}
    for form in forms:
        _, pieces = changes_of(form)
        for rows in pieces:
            for column in zip(*rows):
                found[column] = True
    return [list(column) for column in found]


def all_turns(forms, modulus):
    """The unlike lists of rests by which maps change states: of each piece what is added in the state of its
    rests, and how this turns where an account is greater by its modulus."""
    found = {}
    for form in forms:
        moduli, pieces = changes_of(form)
        for state, rows in zip(all_rests(moduli), pieces):
            found[rests_of(rows_at(rows, state), modulus)] = True
            for turn in turns_of(moduli, rows, [modulus] * len(moduli)):
                found[turn] = True
    return [list(change) for change in found]


def sum_of_changes(form, weights):
    """The table, with one result, of what a map adds to the sum by some weights."""
    moduli, pieces = changes_of(form)
    sums = [(tuple([weighted(weights, column) for column in zip(*rows)]),) for rows in pieces]
    return least_way(moduli, sums)
