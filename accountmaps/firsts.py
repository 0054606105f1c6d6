"""The first states: ordered by the greatest of their amounts without their signs, then as lists.

Each account may have a span, a tuple (low, high) of the least and the greatest amount that count, or None.
"""

from accountmaps.rests import all_rests
from accountmaps.tables import results_at


def amounts_near(span, far):
    """The amounts of a span, or all if it is None, that are no further from nought than so far."""
    low, high = (-far, far) if span is None else span
    return list(range(max(low, -far), min(high, far) + 1))


def states_near(spans, far):
    """All states within some spans, none further from nought than so far, as lists ascending."""
    found = [[]]
    for span in spans:
        found = [state + [amount] for state in found for amount in amounts_near(span, far)]
    return found


def states_at(spans, far):
    """Those of them of which some amount is just so far from nought."""
    found = []
    if spans:
        for amount in amounts_near(spans[0], far):
            others = states_near(spans[1:], far) if abs(amount) == far else states_at(spans[1:], far)
            found.extend([[amount] + state for state in others])
    return found


def first_with_results(table):
    """The first state in which the results of a table are not all noughts, None if there is none."""
    return first_within(table, [None] * len(table[0]))


def first_within(table, spans):
    """The first such state within some spans: with all rests by its modulus, and what else the amount is must not
    matter, where an account has one."""
    moduli, pieces = table
    places = [rests for rests, rows in zip(all_rests(moduli), pieces) if any([any(row) for row in rows])]
    if not places:
        return None
    # The states with the same rests that lie around nought do not lie in one plane: where a piece is not
    # nought always, it is not so in all of them, and none of them is further away than its modulus.
    far = min([least_far(moduli, rests, spans) for rests in places])
    while True:
        for state in states_at(spans, far):
            if any(results_at(table, state)):
                return state
        far = far + 1


def least_far(moduli, rests, spans):
    """How far from nought states with some rests are at least, as far as the spans tell."""
    found = 0
    for modulus, rest, span in zip(moduli, rests, spans):
        if span is not None:
            low, high = span
            found = max(found, min([abs(amount) for amount in range(low, high + 1) if amount % modulus == rest]))
    return found
