"""Tables that are joined: what one does, and then another one of its results."""

from math import gcd, lcm

from accountmaps.rests import all_rests, common_multiple, least_way, prime_factors, spread
from accountmaps.tables import rows_at, rows_behind, rows_for, same_table


def table_behind(one, other):
    """The table of the other one behind the one, which has a result for each account of the other one."""
    moduli, pieces = one
    finer = finer_moduli(one, other)
    found = []
    for state, rows in zip(all_rests(finer), spread(moduli, pieces, finer)):
        found.append(rows_behind(rows, rows_for(other, rows_at(rows, state))))
    return least_way(finer, found)


def finer_moduli(one, other):
    """Moduli, multiples of those of the one, by which the other one behind the one can be told.

    They are no greater than these multiples must be, even where the other one's rests come and go without
    any change: or else the pieces on the way could be far too many.
    """
    moduli, pieces = one
    finer = moduli
    for state, rows in zip(all_rests(moduli), pieces):
        turns = turns_of(moduli, rows, other[0])
        often = needed_turns(rows, rows_at(rows, state), turns, other)
        finer = tuple([lcm(fine, modulus * many) for fine, modulus, many in zip(finer, moduli, often)])
    return finer


def turns_of(moduli, rows, others):
    """For each account by how much the results' rests by other moduli turn if its amount grows by its modulus."""
    columns = list(zip(*rows))
    return [tuple([part * modulus % other for part, other in zip(column, others)])
            for modulus, column in zip(moduli, columns)]


def needed_turns(rows, start, turns, other):
    """For each account behind how many turns the other one always does the same of what some rows make."""
    rounds = [length_of(turn, other[0]) for turn in turns]
    if max(rounds) == 1:
        return rounds
    done = {rests: rows_behind(rows, rows_for(other, rests)) for rests in all_turned(start, turns, other[0])}
    return [least_round(done, turn, often, other[0]) for turn, often in zip(turns, rounds)]


def length_of(turn, moduli):
    """How often rests turn by as much until they are what they were."""
    return common_multiple([modulus // gcd(modulus, part) for modulus, part in zip(moduli, turn)])


def all_turned(start, turns, moduli):
    """All rests by some moduli to which those at the start are led by some turns."""
    found = {turned(start, turns[0], 0, moduli): True}
    for turn in turns:
        for rests in list(found):
            more = turned(rests, turn, 1, moduli)
            while more not in found:
                found[more] = True
                more = turned(more, turn, 1, moduli)
    return list(found)


def turned(rests, turn, often, moduli):
    """The rests behind so many turns."""
    return tuple([(rest + often * part) % modulus for rest, part, modulus in zip(rests, turn, moduli)])


def least_round(done, turn, often, moduli):
    """The least number of turns, a divisor of a number of them, behind which always the same is done."""
    for prime in prime_factors(often):
        less = often // prime
        if all([done[rests] == done[turned(rests, turn, less, moduli)] for rests in done]):
            often = less
    return often


def table_power(table, times):
    """The table of the map of a table, done so many times."""
    found = same_table(len(table[0]))
    while times > 0:
        if times % 2 == 1:
            found = table_behind(found, table)
        times = times // 2
        if times > 0:
            table = table_behind(table, table)
    return found
