"""Lists of integers that are summed up, each as often as one likes, also taken off; and their least bases."""

from math import gcd

from accountmaps.rests import product_of


def in_steps(rows):
    """The least basis, in steps, of all sums of one or more rows of one length."""
    found = []
    rest = [list(row) for row in rows]
    for place in range(len(rows[0])):
        rest = led_to_one(rest, place)
        if rest and rest[0][place] != 0:
            leader = rest[0] if rest[0][place] > 0 else [-part for part in rest[0]]
            found = [less_often(row, leader, place) for row in found] + [leader]
            rest = rest[1:]
    return found


def led_to_one(rows, place):
    """Rows with the same sums, of which at most the first one has another number than 0 at a place."""
    if not rows:
        return []
    leader = rows[0]
    others = []
    for row in rows[1:]:
        while row[place] != 0:
            leader, row = row, less_often(leader, row, place)
        if any(row):
            others.append(row)
    return [leader] + others


def less_often(row, leader, place):
    """A row less another one, so often that the number at a place is a rest by that of the other one."""
    often = row[place] // leader[place]
    return [part - often * other for part, other in zip(row, leader)]


def first_place(row):
    """The first place of a row with another number than 0."""
    return [place for place, part in enumerate(row) if part != 0][0]


def led_down(row, basis):
    """A row less sums of a basis in steps: at the places where its rows begin it has rests by what stands there."""
    for leader in basis:
        row = less_often(row, leader, first_place(leader))
    return row


def unit(place, many):
    """The list of so many integers that are 0, but for a 1 at a place."""
    return [1 if other == place else 0 for other in range(many)]


def beside(rows):
    """Some rows, each with the unit of its place behind it."""
    return [list(row) + unit(place, len(rows)) for place, row in enumerate(rows)]


def weighted(weights, row):
    """The sum of a row's integers times the weights."""
    return sum([weight * part for weight, part in zip(weights, row)])


def without_sum(rows, many):
    """The least basis of all weights, so many, by which the sum of each row is 0."""
    basis = in_steps(rows)
    columns = [[row[place] for row in basis] for place in range(many)]
    return [row[len(basis):] for row in in_steps(beside(columns)) if not any(row[:len(basis)])]


def often_each(rows, goal):
    """How often each of some rows is summed up so that the sum is a goal, None if there is no way."""
    left = led_down(list(goal) + [0] * len(rows), in_steps(beside(rows)))
    if any(left[:len(goal)]):
        return None
    return [-part for part in left[len(goal):]]


def bar_of(rows, goal):
    """The weights and the modulus that show that no sum of rows is a goal, None if there is a way."""
    if often_each(rows, goal) is not None:
        return None
    for weights in without_sum(rows, len(goal)):
        if weighted(weights, goal) != 0:
            return weights, 0
    return bar_by_rests(in_steps(rows), goal)


def bar_by_rests(basis, goal):
    """What bars a goal that is no sum of a basis in steps, but would be one if its rows could be parted."""
    ahead = []
    for leader in basis:
        ahead.append(leader)
        if goal[first_place(leader)] % leader[first_place(leader)] != 0:
            break
        goal = less_often(goal, leader, first_place(leader))
    weights, modulus = only_last(ahead, len(goal))
    return shortened(weights, modulus)


def only_last(basis, many):
    """Weights by which the sums of a basis in steps are 0, but that of its last row, and this sum."""
    places = [first_place(leader) for leader in basis]
    total = product_of([leader[place] for leader, place in zip(basis, places)])
    weights = [0] * many
    weights[places[-1]] = total // basis[-1][places[-1]]
    # Each weight is found from those behind it. It comes out whole, as they hold this number as a factor.
    for at in reversed(range(len(basis) - 1)):
        weights[places[at]] = -weighted(weights, basis[at]) // basis[at][places[at]]
    return weights, total


def shortened(weights, modulus):
    """Weights and a modulus without what divides all of them, the weights being rests."""
    shared = modulus
    for weight in weights:
        shared = gcd(shared, weight)
    modulus = modulus // shared
    return [weight // shared % modulus for weight in weights], modulus
