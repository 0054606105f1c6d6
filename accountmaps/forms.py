"""What a form must be."""

from accountmaps.rests import product_of


def is_form(form, accounts, results):
    """Whether a form is one, of so many accounts, at least one, and with so many results."""
    if len(form) != 2 or len(form[0]) != accounts or min(form[0]) < 1:
        return False
    moduli, pieces = form
    return len(pieces) == product_of(moduli) and all([is_piece(piece, accounts, results) for piece in pieces])


def is_piece(piece, accounts, results):
    """Whether a piece is one, of so many accounts and with so many results."""
    if len(piece) != 2:
        return False
    matrix, amounts = piece
    return len(matrix) == results == len(amounts) and all([len(row) == accounts for row in matrix])
