"""Sheets: what one amount is, by the amounts with which all began.

A sheet is a tuple (moduli, pieces), as a form with one result is, always in its least way. A piece is
one row, as in tables: the integers for the accounts, and behind them the amount that is added.
"""

from math import gcd

from accountmaps.rests import all_rests, common_moduli, least_way, spread
from accountmaps.tables import form_of_table, row_at


class Sheets:
    """The ways to reckon with sheets of so many accounts."""

    def __init__(self, many):
        self.many = many

    def number(self, number):
        """The sheet that is a number."""
        return (1,) * self.many, [(0,) * self.many + (number,)]

    def account(self, index):
        """The sheet that is what an account was."""
        behind = self.many - index
        return (1,) * self.many, [(0,) * index + (1,) + (0,) * behind]

    def plus(self, one, other):
        """The sum of two sheets."""
        moduli, ones, others = side_by_side(one, other)
        sums = [tuple([a + b for a, b in zip(left, right)]) for left, right in zip(ones, others)]
        return least_way(moduli, sums)

    def less(self, one, other):
        """The one sheet less the other one."""
        return self.plus(one, self.times(-1, other))

    def times(self, number, one):
        """A sheet, multiplied."""
        moduli, pieces = one
        return least_way(moduli, [tuple([number * part for part in piece]) for piece in pieces])

    def rest(self, one, modulus):
        """The rest of a sheet by a modulus."""
        moduli, pieces = one
        finer = [finer_modulus(moduli, pieces, index, modulus) for index in range(self.many)]
        finer_pieces = spread(moduli, pieces, finer)
        amounts = [row_at(piece, state) % modulus for piece, state in zip(finer_pieces, all_rests(finer))]
        noughts = (0,) * self.many
        return least_way(finer, [noughts + (amount,) for amount in amounts])

    def sure(self, rest, rests):
        """True or False if a rest always or never is one of some rests, None if that hangs on the state."""
        _, pieces = rest
        among = [piece[-1] in rests for piece in pieces]
        if all(among):
            return True
        return None if any(among) else False

    def chosen(self, rest, rests, one, other):
        """The one sheet where a rest is one of some rests, elsewhere the other one."""
        moduli = common_moduli([rest[0], one[0], other[0]])
        deciding = spread(rest[0], rest[1], moduli)
        ones = spread(one[0], one[1], moduli)
        others = spread(other[0], other[1], moduli)
        choices = zip(deciding, ones, others)
        return least_way(moduli, [left if piece[-1] in rests else right for piece, left, right in choices])


def side_by_side(one, other):
    """The common moduli of two sheets, and the pieces of both by these."""
    moduli = common_moduli([one[0], other[0]])
    return moduli, spread(one[0], one[1], moduli), spread(other[0], other[1], moduli)


def finer_modulus(moduli, pieces, index, modulus):
    """The modulus of an account by which each piece, as far as it hangs on this account, has one rest."""
    shared = modulus
    for piece in pieces:
        shared = gcd(shared, piece[index] * moduli[index])
    return moduli[index] * (modulus // shared)


def hangs(sheet, index):
    """Whether two states that are unlike in one account alone, told by its index, give unlike amounts."""
    moduli, pieces = sheet
    return moduli[index] > 1 or any([piece[index] != 0 for piece in pieces])


def form_of_sheets(sheets):
    """The form, in its least way, with a result for each of one or more sheets."""
    moduli = common_moduli([sheet[0] for sheet in sheets])
    lots = [spread(sheet[0], sheet[1], moduli) for sheet in sheets]
    return form_of_table((moduli, list(zip(*lots))))
