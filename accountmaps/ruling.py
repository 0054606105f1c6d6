"""Rules: forms that make of the results of reports those of a question.

A lot of spots has one piece of a rule together if one row for each result of the question makes it of what is
seen, in all of these spots. All of this is by the turns of the spots [spots.py].
"""

from math import lcm

from accountmaps.joining import all_turned, turns_of
from accountmaps.lattices import unit
from accountmaps.rests import all_rests, prime_factors
from accountmaps.solving import solved
from accountmaps.tables import rows_behind, rows_for

# What the moduli of a rule that is told multiply to at most, and those of any form that comes out.
FEW = 60
MANY = 600


def rests_seen(spot, moduli):
    """All rests by some moduli that what is seen has in a spot."""
    start, looks, _ = spot
    return all_turned([row[-1] for row in looks], turns_of([1] * len(start), looks, moduli), moduli)


def is_ruled(spots, told_rule):
    """Whether the table of a rule makes the question's results of what is seen."""
    moduli, _ = told_rule
    for spot in spots:
        _, looks, asks = spot
        for rests in rests_seen(spot, moduli):
            if rows_behind(looks, rows_for(told_rule, rests)) != asks:
                return False
    return True


def rows_for_spots(spots):
    """The rows that make the question's results of what is seen in all of some spots, None if there are none."""
    _, looks, asks = spots[0]
    found = []
    for result in range(len(asks)):
        needed = [row for spot in spots for row in needed_of(spot, result)]
        solution = solved(len(looks) + 1, needed)
        if solution is None:
            return None
        found.append(tuple(solution[0]))
    return tuple(found)


def needed_of(spot, result):
    """What must be 0, as rows, of a row that makes a result of the question of what is seen in a spot."""
    _, looks, asks = spot
    asked = asks[result]
    columns = list(zip(*looks))
    # It must grow as the result does with each account's turns, and be what the result is at the start.
    growing = [column + (0, -part) for column, part in zip(columns, asked)]
    return growing[:-1] + [columns[-1] + (1, -asked[-1])]


def lots_seen(spots, moduli):
    """The indexes of all spots in which what is seen has some rests, by these rests."""
    lots = {}
    for index, spot in enumerate(spots):
        for rests in rests_seen(spot, moduli):
            lots[rests] = lots.get(rests, ()) + (index,)
    return lots


def rows_by_lots(spots, lots):
    """The tuple (rows, bar) of the rows of each lot that has a piece together, and a lot that has none or None."""
    known = {}
    for rests in lots:
        lot = lots[rests]
        if lot not in known:
            known[lot] = rows_for_spots([spots[index] for index in lot])
            if known[lot] is None:
                return known, lot
    return known, None


def pieces_by_lots(lots, known, moduli, results):
    """The pieces of a rule, as rows: what it makes of what is never seen is nought."""
    nothing = tuple([(0,) * (len(moduli) + 1) for _ in range(results)])
    return [known[lots[rests]] if rests in lots else nothing for rests in all_rests(moduli)]


def ruled_with(spots, moduli):
    """The pieces of a rule with just these moduli, as rows, None if there is none."""
    lots = lots_seen(spots, moduli)
    known, bar = rows_by_lots(spots, lots)
    return pieces_by_lots(lots, known, moduli, len(spots[0][2])) if bar is None else None


def first_ruled(spots, many):
    """The tuple (moduli, pieces) of a rule for so many results that are seen, None if there is none: with moduli that
    multiply to as little as can be, as far as forms go that are asked for."""
    bars = []
    found = ruled_between(spots, many, 1, FEW, bars)
    # Most rules are found before it is worth while to ask whether there is one.
    if found is None and can_be_ruled(spots):
        found = ruled_between(spots, many, FEW + 1, MANY, bars)
        if found is None:
            found = far_ruled(spots, many, bars)
    return found


def ruled_between(spots, many, low, high, bars):
    """The same with moduli that multiply to a number from low to high."""
    for whole in range(low, high + 1):
        for moduli in moduli_with(whole, many):
            pieces = ruled_past(spots, moduli, bars)
            if pieces is not None:
                return moduli, pieces
    return None


def ruled_past(spots, moduli, bars):
    """The pieces of a rule with just these moduli, None if there is none: then a lot of a few spots that these
    moduli do not part, and that has no piece together, is among the bars, which bar other moduli, too."""
    if any_meet(bars, moduli):
        return None
    lots = lots_seen(spots, moduli)
    known, bar = rows_by_lots(spots, lots)
    if bar is None:
        return pieces_by_lots(lots, known, moduli, len(spots[0][2]))
    bars.append(least_bar([spots[index] for index in bar]))
    return None


def far_ruled(spots, many, bars):
    """The tuple (moduli, pieces) of a rule, which there is, with moduli of which none can be divided."""
    moduli, pieces = (1,) * many, None
    while pieces is None:
        for bar in bars:
            if meet(bar, moduli):
                power = parting_power(bar, many)
                moduli = tuple([lcm(modulus, power) for modulus in moduli])
        pieces = ruled_past(spots, moduli, bars)
    for place in range(many):
        for prime in prime_factors(moduli[place]):
            less = moduli[:place] + (moduli[place] // prime,) + moduli[place + 1:]
            found = ruled_past(spots, less, bars)
            if found is not None:
                moduli, pieces = less, found
    return moduli, pieces


def parting_power(spots, many):
    """The least modulus, for all of so many results, by whose rests not the same is seen in all of some spots."""
    power = 2
    while meet(spots, [power] * many):
        power = power + 1
    return power


def moduli_with(whole, many):
    """All tuples of so many moduli that multiply to a number."""
    if many == 1:
        return [(whole,)]
    return [(first,) + moduli for first in range(1, whole + 1) if whole % first == 0
            for moduli in moduli_with(whole // first, many - 1)]


def least_bar(spots):
    """A few of some spots that have no piece together: those that have none either, but would without any of them."""
    found = []
    while not found or rows_for_spots(found) is not None:
        low, high = 0, len(spots) - 1
        while low < high:
            half = (low + high) // 2
            if rows_for_spots(found + spots[:half + 1]) is None:
                high = half
            else:
                low = half + 1
        found.append(spots[low])
        spots = spots[:low]
    return found


def any_meet(bars, moduli):
    """Whether the spots of some lot see the same by the rests of some moduli."""
    for spots in bars:
        if meet(spots, moduli):
            return True
    return False


def meet(spots, moduli):
    """Whether the same can be seen in all of some spots, by rests alone: by no rest at all where a modulus is 0."""
    many, results = len(spots[0][0]), len(moduli)
    rows = []
    # What is seen is, in each spot, by its turns and some wholes of the moduli, one and the same list of integers.
    for place, (_, looks, _) in enumerate(spots):
        for result, look in enumerate(looks):
            same = unit(result, results)
            own = list(look[:-1]) + [modulus * part for modulus, part in zip(moduli, same)]
            blocks = [own if other == place else [0] * (many + results) for other in range(len(spots))]
            rows.append([-part for part in same] + [part for block in blocks for part in block] + [look[-1]])
    return solved(results + len(spots) * (many + results), rows) is not None


def can_be_ruled(spots):
    """Whether a question that is told has a rule with any moduli.

    Moduli that are great enough part all spots that see nothing in common. So there is a rule exactly if all
    spots that see something in common have a piece together; and it is enough if this holds for any of them
    that are as many as the results that are seen and one, or fewer: no more equations show that there is none.
    """
    kinds = {}
    for spot in spots:
        kinds.setdefault(growing_of(spot), []).append(spot)
    every = list(kinds)
    lots = [[kind] for kind in every]
    for _ in range(len(spots[0][1]) + 1):
        fit = []
        for lot in lots:
            if rows_for_spots(lot) is not None:
                fit.append(lot)
            elif meet_anywhere([kinds[kind] for kind in lot]):
                return False
        lots = [lot + [kind] for lot in fit for kind in every[every.index(lot[-1]) + 1:]]
    return True


def growing_of(spot):
    """A spot as if all that is seen and asked were 0 at its start.

    Where the same is seen in spots, the same is asked: so it only counts how both grow.
    """
    start, looks, asks = spot
    noughts = tuple([row[:-1] + (0,) for row in looks]), tuple([row[:-1] + (0,) for row in asks])
    return ((0,) * len(start),) + noughts


def meet_anywhere(lots):
    """Whether the same is seen in some spots, one of each lot."""
    chosen = [[]]
    for lot in lots:
        chosen = [spots + [spot] for spots in chosen for spot in lot]
    return any_meet(chosen, [0] * len(lots[0][0][1]))
