"""Forms: their least way, what they are in a state, one behind another one, and whether two are alike."""

from accountmaps.checks import check_index, check_state
from accountmaps.copies import copied
from accountmaps.errors import InvalidForm, InvalidNumber
from accountmaps.firsts import first_with_results
from accountmaps.forms import accounts_in_form, check_form, results_in_form
from accountmaps.joining import table_behind
from accountmaps.rests import least_way, place_of
from accountmaps.sheets import hangs
from accountmaps.tables import difference, form_of_table, rows_at, rows_of, same_table, table_of


def least(form):
    """A form in its least way."""
    check_form(form)
    return form_of_table(table_of(form))


def at(form, state):
    """The results of a form in a state."""
    check_form(form)
    check_state(accounts_in_form(form), state)
    moduli, pieces = form
    return list(rows_at(rows_of(pieces[place_of(moduli, state)]), state))


def joined(one, other):
    """The form of the other one behind the one: its results of the results of the one."""
    check_form(one)
    check_form(other)
    if accounts_in_form(other) != results_in_form(one):
        raise InvalidForm(copied(other))
    return form_of_table(table_behind(table_of(one), table_of(other)))


def alike(one, other):
    """Whether two forms have the same results in all states."""
    check_both(one, other)
    return table_of(one) == table_of(other)


def first_unlike(one, other):
    """The first state in which two forms have unlike results, None if there is none."""
    check_both(one, other)
    return first_with_results(difference(table_of(one), table_of(other)))


def same_map(accounts):
    """The form that leaves so many accounts as they are."""
    if accounts < 1:
        raise InvalidNumber(accounts)
    return form_of_table(same_table(accounts))


def is_plain(form):
    """Whether no rest matters."""
    check_form(form)
    moduli, _ = table_of(form)
    return max(moduli) == 1


def matrices(form):
    """The unlike matrices of a form's pieces, in the order in which they stand first."""
    check_form(form)
    found = []
    for matrix, _ in form[1]:
        if matrix not in found:
            found.append(copied(matrix))
    return found


def hangs_on(form, result, account):
    """Whether two states that are unlike in one account alone give a result unlike, both told by indexes."""
    check_form(form)
    check_index(result, results_in_form(form))
    check_index(account, accounts_in_form(form))
    moduli, pieces = form
    rows = [rows_of(piece)[result] for piece in pieces]
    return hangs(least_way(tuple(moduli), rows), account)


def check_both(one, other):
    """Refuse two forms of which one is none, or the other one has not as many accounts and results as the one."""
    check_form(one)
    check_form(other)
    if (accounts_in_form(one), results_in_form(one)) != (accounts_in_form(other), results_in_form(other)):
        raise InvalidForm(copied(other))
