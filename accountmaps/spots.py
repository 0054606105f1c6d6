"""Spots: all states with the same rests by some moduli, and what reports and a question are in them.

A state of a spot is told by its turns: how often each account has grown by its modulus since the start of the
spot, the state of the rests. A spot is a tuple (start, looks, asks): the rows of the reports' results and those
of the question, as those of tables, by turns. Reports and questions are tables here.
"""

from accountmaps.rests import all_rests, common_moduli, spread
from accountmaps.solving import point_unlike, solved
from accountmaps.tables import row_at


def stacked(tables, many):
    """The table, perhaps not in its least way, of all results of tables of so many accounts."""
    moduli = common_moduli([(1,) * many] + [table[0] for table in tables])
    lots = [spread(table[0], table[1], moduli) for table in tables]
    return moduli, [tuple([row for lot in lots for row in lot[place]]) for place in range(len(all_rests(moduli)))]


def without_doubles(table):
    """The table with each of its results once."""
    moduli, pieces = table
    found = {}
    for result in zip(*pieces):
        found[result] = True
    return moduli, [tuple([result[place] for result in found]) for place in range(len(pieces))]


def spots_of(looks, asks):
    """The tuple (moduli, spots) by whose rests both a table of reports and that of a question are told."""
    moduli = common_moduli([looks[0], asks[0]])
    seen, asked = spread(looks[0], looks[1], moduli), spread(asks[0], asks[1], moduli)
    spots = []
    for start, rows, others in zip(all_rests(moduli), seen, asked):
        spots.append((start, by_turns(rows, start, moduli), by_turns(others, start, moduli)))
    return moduli, spots


def by_turns(rows, start, moduli):
    """Rows by the turns of a spot."""
    return tuple([tuple([part * modulus for part, modulus in zip(row, moduli)]) + (row_at(row, start),)
                  for row in rows])


def state_of(start, turns, moduli):
    """The state of a spot with some turns."""
    return [rest + turn * modulus for rest, turn, modulus in zip(start, turns, moduli)]


def gaps(rows, others):
    """The rows, by the turns of two spots one behind the other, of what is seen in one less that in the other."""
    return [row[:-1] + tuple([-part for part in other[:-1]]) + (row[-1] - other[-1],)
            for row, other in zip(rows, others)]


def parted_states(looks, asks):
    """A tuple of two states that look alike and in which the question is unlike, None if it is told."""
    moduli, spots = spots_of(without_doubles(looks), asks)
    many = len(moduli)
    for place, (start, rows, questions) in enumerate(spots):
        for other, other_rows, other_questions in spots[:place + 1]:
            found = solved(2 * many, gaps(rows, other_rows))
            turns = None if found is None else point_unlike(found, gaps(questions, other_questions))
            if turns is not None:
                return state_of(start, turns[:many], moduli), state_of(other, turns[many:], moduli)
    return None


def seen_by_spots(looks, asks, seen):
    """All spots in which states fit what is seen, as tuples (start, asks, solution by turns); and the moduli."""
    moduli, spots = spots_of(looks, asks)
    found = []
    for start, rows, questions in spots:
        left = [row[:-1] + (row[-1] - amount,) for row, amount in zip(rows, seen)]
        solution = solved(len(moduli), left)
        if solution is not None:
            found.append((start, questions, solution))
    return moduli, found
