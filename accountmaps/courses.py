"""Courses: choices that are made one behind the other, ordered by length and then as lists."""


def first_courses(step, start, choices, most):
    """The first course of at most so many choices that leads to each thing that can be reached, by the things.

    A step makes of a choice and a thing the next thing. The choices are ascending.
    """
    found = {start: []}
    lot = [start]
    # Each lot stands in the order of its courses, so what is found first is found by the first course.
    while lot and most > 0:
        more = []
        for thing in lot:
            for choice in choices:
                then = step(choice, thing)
                if then not in found:
                    found[then] = found[thing] + [choice]
                    more.append(then)
        lot = more
        most = most - 1
    return found
