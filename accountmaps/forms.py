"""What a form must be."""

from accountmaps.copies import copied
from accountmaps.errors import InvalidForm, InvalidNumber
from accountmaps.rests import product_of


def is_form(form, accounts, results):
    """Whether a form is one, of so many accounts, at least one, and with so many results."""
    if len(form) != 2 or len(form[0]) != accounts or min(form[0], default=0) < 1:
        return False
    moduli, pieces = form
    return len(pieces) == product_of(moduli) and all([is_piece(piece, accounts, results) for piece in pieces])


def is_piece(piece, accounts, results):
    """Whether a piece is one, of so many accounts and with so many results."""
    if len(piece) != 2:
        return False
    matrix, amounts = piece
    return len(matrix) == results == len(amounts) and all([len(row) == accounts for row in matrix])


def accounts_in_form(form):
    """How many accounts a form has, if it is one."""
    return len(form[0]) if len(form) > 0 else 0


def results_in_form(form):
    """How many results a form has, if it is one."""
    if len(form) != 2 or len(form[1]) == 0 or len(form[1][0]) == 0:
        return 0
    return len(form[1][0][0])


def check_form(form):
    """Refuse what is no form."""
    results = results_in_form(form)
    if results == 0 or not is_form(form, accounts_in_form(form), results):
        raise InvalidForm(copied(form))


def check_map(form, accounts):
    """Refuse what is no form of a map of so many accounts."""
    check_form_with(form, accounts, accounts)


def check_maps(forms):
    """Refuse the first that is no form of a map, or has not as many accounts as the first one."""
    for form in forms:
        check_map(form, accounts_in_form(forms[0]))


def check_some_maps(forms):
    """Refuse a list without a form, or with one that is no form of a map of as many accounts as the first one."""
    if not forms:
        raise InvalidNumber(0)
    check_maps(forms)


def check_form_of(form, accounts):
    """Refuse what is no form of so many accounts."""
    check_form(form)
    if accounts_in_form(form) != accounts:
        raise InvalidForm(copied(form))


def check_form_with(form, accounts, results):
    """Refuse what is no form of so many accounts and with so many results."""
    if not is_form(form, accounts, results):
        raise InvalidForm(copied(form))
