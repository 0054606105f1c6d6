"""What maps make of a state step by step: where it comes round, and where it is behind great numbers of steps."""

from math import lcm

from accountmaps.rests import common_multiple, product_of, rests_of
from accountmaps.tables import results_at, rows_at, rows_behind, rows_for, same_rows

# By the number of accounts: the greatest number of times behind which the powers of a matrix can come round.
# It is a least common multiple of orders of roots of one, whose degrees come to no more than the accounts.
ORDERS = (1, 2, 6, 6, 12, 12, 30, 30, 60)


def walked(step, thing, most):
    """The tuple (things, first): what comes of a thing step by step, it too, until one comes again, and where
    that one stood. It is None if none comes again within so many steps."""
    places = {}
    while thing not in places and len(places) <= most:
        places[thing] = len(places)
        thing = step(thing)
    return list(places), places.get(thing)


def rests_walked(table, state, modulus):
    """The tuple (things, first) of the rests of a state by a multiple of all moduli of a map's table."""
    most = product_of([modulus] * len(state))
    return walked(lambda rests: rests_of(results_at(table, rests), modulus), rests_of(state, modulus), most)


def steps_walked(table, state, most):
    """The list of what a state is from 0 up to so many times."""
    found = [tuple(state)]
    for _ in range(most):
        found.append(results_at(table, found[-1]))
    return found


def own_modulus(table):
    """The least common multiple of a table's moduli: rests by it tell what becomes of them."""
    moduli, _ = table
    return common_multiple(moduli)


def order_of(many):
    """The greatest number of times behind which the powers of a matrix for so many accounts can come round."""
    return ORDERS[min(many, len(ORDERS) - 1)]


def patience(table, state):
    """A number of steps within which a state, or all states with its rests alike, come round, if they ever do.

    Behind as many rounds of the rests as there are accounts, all has gone that ever goes.
    """
    rests, first = rests_walked(table, state, own_modulus(table))
    return first + (len(rests) - first) * (len(state) + order_of(len(state)))


def state_round(table, state):
    """The tuple (first, length) by which a state comes round, None if it never does."""
    states, first = walked(lambda now: results_at(table, now), tuple(state), patience(table, state))
    return None if first is None else (first, len(states) - first)


def rests_round(table, rests):
    """The tuple (first, length) by which the map comes round for all states with the same rests by its modulus."""
    modulus = own_modulus(table)

    def step(thing):
        now, rows = thing
        then = rows_for(table, now)
        return rests_of(rows_at(then, now), modulus), rows_behind(rows, then)

    things, first = walked(step, (rests, same_rows(len(rests))), patience(table, rests))
    return None if first is None else (first, len(things) - first)


def rests_far_behind(table, state, times, modulus):
    """The rests by a modulus of what a state is behind so many times."""
    rests, first = rests_walked(table, state, own_modulus(table))
    whole = lcm(own_modulus(table), modulus)
    ahead = min(times, first)
    rounds, left = divmod(times - ahead, len(rests) - first)
    state = rests_behind(table, rests_of(state, whole), ahead, whole)
    rows = same_rows(len(state))
    for now in rests[first:]:
        rows = rests_of_rows(rows_behind(rows, rows_for(table, now)), whole)
    state = rests_of_power(rows, state, rounds, whole)
    return rests_of(rests_behind(table, state, left, whole), modulus)


def rests_behind(table, rests, times, modulus):
    """The rests by a multiple of all moduli behind so many times, one by one."""
    for _ in range(times):
        rests = rests_of(results_at(table, rests), modulus)
    return rests


def rests_of_power(rows, rests, times, modulus):
    """The rests behind some rows that are done so many times, by doubling what they do."""
    while times > 0:
        if times % 2 == 1:
            rests = rests_of(rows_at(rows, rests), modulus)
        rows = rests_of_rows(rows_behind(rows, rows), modulus)
        times = times // 2
    return rests


def rests_of_rows(rows, modulus):
    """The rows with rests by a modulus in the place of their integers."""
    return tuple([rests_of(row, modulus) for row in rows])
