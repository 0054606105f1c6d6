"""Parcels: all states of a box that have the same rests, and what rows are in them.

A parcel is a tuple (spans, rows) of the rows of the piece for these rests, and a span for each account: a tuple
(first, last, step) of the amounts from the first to the last one, both too, by steps of the modulus.
"""

from accountmaps.rests import all_rests, product_of
from accountmaps.tables import row_at


def parcels_of(table, box):
    """All parcels of a box with at least one state."""
    moduli, pieces = table
    lots = [[span_of(low, high, modulus, rest) for rest in range(modulus)] for (low, high), modulus in zip(box, moduli)]
    found = []
    for rests, rows in zip(all_rests(moduli), pieces):
        spans = [lot[rest] for lot, rest in zip(lots, rests)]
        if None not in spans:
            found.append((spans, rows))
    return found


def span_of(low, high, modulus, rest):
    """The span of the amounts from low to high with a rest, None if there are none."""
    first, last = low + (rest - low) % modulus, high - (high - rest) % modulus
    return (first, last, modulus) if first <= last else None


def least_in(row, spans):
    """The tuple (number, state) of the least number that a row is in a parcel, and the first state where it is so."""
    state = [first if part >= 0 else last for part, (first, last, _) in zip(row, spans)]
    return row_at(row, state), state


def negative(row):
    """A row with all taken off that it adds."""
    return tuple([-part for part in row])


def ends_of(row, spans):
    """The tuple of the least and the greatest number that a row is in a parcel."""
    low = high = row[-1]
    for part, (first, last, _) in zip(row, spans):
        if part >= 0:
            low, high = low + part * first, high + part * last
        else:
            low, high = low + part * last, high + part * first
    return low, high


def hull_of(table, box):
    """The least box that holds the results of a table in a box."""
    return hull_of_boxes([[ends_of(row, spans) for row in rows] for spans, rows in parcels_of(table, box)])


def hull_of_boxes(boxes):
    """The least box that holds some boxes."""
    return [(min([low for low, _ in ends]), max([high for _, high in ends])) for ends in zip(*boxes)]


def first_leaving(table, box, other):
    """The first state of a box, as lists, in which the results of a table do not lie in another box, or None."""
    states = []
    for spans, rows in parcels_of(table, box):
        for row, (low, high) in zip(rows, other):
            states.append(first_above(row, spans, high))
            states.append(first_above(negative(row), spans, -low))
    return min([state for state in states if state is not None], default=None)


def first_above(row, spans, number):
    """The first state of a parcel in which a row is more than a number, None if there is none."""
    _, most = ends_of(row, spans)
    if most <= number:
        return None
    # Each account in turn is as small as can be: it may take off what is left of the most that the row can be.
    spare = most - number - 1
    state = []
    for part, (first, last, step) in zip(row, spans):
        amount = first
        if part > 0:
            steps = min((last - first) // step, spare // (part * step))
            amount = last - steps * step
            spare = spare - part * step * steps
        state.append(amount)
    return state


def count_of(spans):
    """How many states a parcel has."""
    return product_of([(last - first) // step + 1 for first, last, step in spans])


def sum_over(row, spans):
    """The sum of a row over all states of a parcel."""
    count = count_of(spans)
    # The amounts of an account lie as far above their middle as below it.
    doubled = sum([part * (first + last) for part, (first, last, _) in zip(row, spans)]) + 2 * row[-1]
    return count * doubled // 2
