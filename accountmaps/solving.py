"""All lists of integers that solve equations.

A solution is a tuple (point, basis): the lists that come of the point by adding the lists of the basis, each
as often as one likes, also taken off.
"""

from accountmaps.lattices import unit, weighted


def solved(many, rows):
    """All lists of so many integers in which some rows, as those of tables, are 0; None if there is none."""
    found = [0] * many, [unit(place, many) for place in range(many)]
    for row in rows:
        found = narrowed(found, row)
        if found is None:
            return None
    return found


def narrowed(solution, row):
    """The part of a solution in which one more row is 0, None if there is none."""
    point, basis = solution
    wished = -row[-1] - weighted(point, row)
    sums = [(weighted(one, row), one) for one in basis]
    if not any([part for part, _ in sums]):
        return solution if wished == 0 else None
    step, leader, staying = led_together(sums)
    if wished % step != 0:
        return None
    return moved(point, leader, wished // step), staying


def led_together(sums):
    """The tuple (step, leader, others) for tuples of a number, not always 0, and a list: lists that sum up to the
    same, with the number 0 but for the leader's."""
    staying = [one for part, one in sums if part == 0]
    moving = [pair for pair in sums if pair[0] != 0]
    while len(moving) > 1:
        # The number nearest to 0 leads all others down at once: so the lists stay short.
        step, leader = moving[nearest(moving)]
        led = [led_by(pair, step, leader) for pair in moving if pair[1] != leader]
        staying.extend([one for part, one in led if part == 0])
        moving = [(step, leader)] + [pair for pair in led if pair[0] != 0]
    return moving[0] + (staying,)


def nearest(sums):
    """The place of the number that is nearest to 0, of tuples of a number and a list."""
    far = [abs(part) for part, _ in sums]
    return far.index(min(far))


def led_by(pair, step, leader):
    """A number and a list, less a leader's, so often that the number is as near to 0 as can be."""
    part, one = pair
    often = (2 * part + step) // (2 * step)
    return part - often * step, moved(one, leader, -often)


def moved(point, step, often):
    """A list of integers to which another one is added so often."""
    return [a + often * b for a, b in zip(point, step)]


def point_unlike(solution, rows):
    """A list of a solution in which some row is not 0, None if all rows are 0 in all of them."""
    point, basis = solution
    if any([weighted(point, row) + row[-1] for row in rows]):
        return point
    for one in basis:
        if any([weighted(one, row) for row in rows]):
            return moved(point, one, 1)
    return None
