"""The first states: ordered by the greatest of their amounts without their signs, then as lists."""

from accountmaps.tables import results_at


def states_near(many, far):
    """All states of so many amounts, none further from nought than so far, as lists ascending."""
    found = [[]]
    for _ in range(many):
        found = [state + [amount] for state in found for amount in range(-far, far + 1)]
    return found


def states_at(many, far):
    """Those of them of which some amount is just so far from nought."""
    found = []
    if many > 0:
        for amount in range(-far, far + 1):
            others = states_near(many - 1, far) if abs(amount) == far else states_at(many - 1, far)
            found.extend([[amount] + state for state in others])
    return found


def first_with_results(table):
    """The first state in which the results of a table are not all noughts, None if there is none."""
    moduli, pieces = table
    if not any([any(row) for rows in pieces for row in rows]):
        return None
    # The states with the same rests that lie around nought do not lie in one plane: where a piece is not
    # nought always, it is not so in all of them, and none of them is further away than its modulus.
    for far in range(max(moduli) + 1):
        for state in states_at(len(moduli), far):
            if any(results_at(table, state)):
                return state
    return None
