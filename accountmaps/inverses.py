"""Maps that can be taken back, as tables, and what maps make of no state."""

from accountmaps.firsts import states_at
from accountmaps.lattices import beside, in_steps, led_down, unit
from accountmaps.rests import all_rests, least_way, rests_of, spread
from accountmaps.spots import by_turns, parted_states
from accountmaps.tables import row_at, rows_at, same_table
from accountmaps.walks import own_modulus


def fallen_states(table):
    """A tuple of two unlike states of which the map of a table makes the same, None if there is none."""
    return parted_states(table, same_table(len(table[0])))


def matrix_back(rows):
    """The matrix that takes back that of some rows, None if none of integers does."""
    many = len(rows)
    basis = in_steps(beside([row[:-1] for row in rows]))
    if [row[:many] for row in basis] != [unit(place, many) for place in range(many)]:
        return None
    return [row[many:] for row in basis]


def makes_all(table):
    """Whether the map of a table makes each state of one.

    What it makes of the states with the same rests lies, on the whole, as often less densely as its determinant
    says: so all is made only if each is 1 or -1, and then only if nothing is made twice.
    """
    _, pieces = table
    for rows in pieces:
        if matrix_back(rows) is None:
            return False
    return fallen_states(table) is None


def first_never_made(table):
    """The first state that the map of a table makes of none, None if there is none."""
    if makes_all(table):
        return None
    many = len(table[0])
    lots = made_of(table)
    far = 0
    while True:
        for state in states_at([None] * many, far):
            if not is_made(lots, state):
                return state
        far = far + 1


def made_of(table):
    """What the map of a table makes of the states with each tuple of rests: a state and a basis in steps of all
    lists of integers by which the others differ from it."""
    moduli, pieces = table
    found = []
    for rests, rows in zip(all_rests(moduli), pieces):
        turned = by_turns(rows, rests, moduli)
        columns = list(zip(*turned))
        found.append((columns[-1], in_steps(columns[:-1])))
    return found


def is_made(lots, state):
    """Whether a state is made of any."""
    for start, basis in lots:
        if not any(led_down([a - b for a, b in zip(state, start)], basis)):
            return True
    return False


def table_back(table):
    """The table of the map that takes back that of a table, None if there is none."""
    moduli, pieces = table
    modulus = own_modulus(table)
    finer = (modulus,) * len(moduli)
    backs = {rows: matrix_back(rows) for rows in pieces}
    found = {}
    # With one modulus for all accounts the rests are led to rests, one by one if the map can be taken back.
    for rests, rows in zip(all_rests(finer), spread(moduli, pieces, finer)):
        then = rests_of(rows_at(rows, rests), modulus)
        if backs[rows] is None or then in found:
            return None
        found[then] = tuple([row_back(row, rows) for row in backs[rows]])
    return least_way(finer, [found[rests] for rests in all_rests(finer)])


def row_back(row, rows):
    """The row of a matrix that takes back some rows, with what it must take off for what they add."""
    return tuple(row) + (-row_at(tuple(row) + (0,), [added[-1] for added in rows]),)
