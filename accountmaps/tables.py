"""Tables: forms as they are reckoned with, always in their least way.

A table is a tuple (moduli, pieces) of a tuple and a list. A piece is a tuple of rows, one for each result:
the integers for the accounts, and behind them the amount that is added.
"""

from accountmaps.rests import common_moduli, least_way, place_of, spread


def table_of(form):
    """The table of a form."""
    moduli, pieces = form
    return least_way(tuple(moduli), [rows_of(piece) for piece in pieces])


def rows_of(piece):
    """The rows of the piece of a form."""
    return tuple([tuple(integers) + (amount,) for integers, amount in zip(piece[0], piece[1])])


def form_of_table(table):
    """The form of a table, with new lists."""
    moduli, pieces = table
    return list(moduli), [piece_of_rows(rows) for rows in pieces]


def piece_of_rows(rows):
    """The piece of a form that has some rows."""
    return [list(row[:-1]) for row in rows], [row[-1] for row in rows]


def fixed(table):
    """A table that can be a key of a dict."""
    moduli, pieces = table
    return moduli, tuple(pieces)


def same_rows(many):
    """The rows that leave so many accounts as they are."""
    return tuple([(0,) * place + (1,) + (0,) * (many - place) for place in range(many)])


def same_table(many):
    """The table that leaves so many accounts as they are."""
    return (1,) * many, [same_rows(many)]


def row_at(row, state):
    """What a row is in a state."""
    return sum([part * amount for part, amount in zip(row, state)]) + row[-1]


def rows_at(rows, state):
    """What some rows are in a state, as a tuple."""
    return tuple([row_at(row, state) for row in rows])


def rows_for(table, state):
    """The rows of a table for a state."""
    moduli, pieces = table
    return pieces[place_of(moduli, state)]


def results_at(table, state):
    """The results of a table in a state, as a tuple."""
    return rows_at(rows_for(table, state), state)


def rows_behind(rows, others):
    """The rows that do what some rows do and then, with these results, what others do."""
    columns = list(zip(*rows))
    return tuple([row_behind(columns, other) for other in others])


def row_behind(columns, other):
    """The row that sums up rows, told by their columns, each as often as another row says, and its amount."""
    sums = [sum([often * part for often, part in zip(other, column)]) for column in columns]
    return tuple(sums[:-1]) + (sums[-1] + other[-1],)


def difference(one, other):
    """The table of the results of the one less those of the other one."""
    moduli = common_moduli([one[0], other[0]])
    ones, others = spread(one[0], one[1], moduli), spread(other[0], other[1], moduli)
    return least_way(moduli, [rows_less(left, right) for left, right in zip(ones, others)])


def rows_less(rows, others):
    """Some rows less others."""
    return tuple([tuple([a - b for a, b in zip(row, other)]) for row, other in zip(rows, others)])
