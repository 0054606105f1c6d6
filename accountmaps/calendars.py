"""Calendars: numbers of times that come again and again, told in their least way.

A calendar is a tuple (early, first, length, found): the numbers of the ascending list early, less than first,
and first + f + length * j for each f of the ascending list found and each j from 0 on.
"""

from math import gcd

from accountmaps.checks import is_ascending_below
from accountmaps.copies import copied
from accountmaps.errors import InvalidRests
from accountmaps.rests import common_multiple, least_way, prime_factors


def calendar_of(truths, first):
    """The calendar of the numbers at which some truths hold, which come again from a first number on."""
    _, again = least_way((len(truths) - first,), truths[first:])
    while first > 0 and truths[first - 1] == again[-1]:
        again = again[-1:] + again[:-1]
        first = first - 1
    return true_places(truths[:first]), first, len(again), true_places(again)


def true_places(truths):
    """The places at which some truths hold."""
    return [place for place, true in enumerate(truths) if true]


def holds(told, number):
    """Whether a number is one of a calendar's."""
    early, first, length, found = told
    return number in early if number < first else (number - first) % length in found


def truths_of(told, most):
    """Whether a calendar has a number, for each that is less than so many."""
    return [holds(told, number) for number in range(most)]


def common_span(one, other):
    """The tuple (first, most): from the first on, two calendars come again behind what is left up to most."""
    first = max(one[1], other[1])
    return first, first + common_multiple([one[2], other[2]])


def is_least_calendar(told):
    """Whether what is told so is a calendar, with the least first and then the least length."""
    early, first, length, found = told
    if not is_ascending_below(early, first) or not is_ascending_below(found, length):
        return False
    if first > 0 and (first - 1 in early) == (length - 1 in found):
        return False
    if not found:
        return length == 1
    # What comes again within the length does so behind a prime part of it, and this prime divides how many there are.
    return not any([comes_again_in(found, length, length // prime) for prime in prime_factors(gcd(length, len(found)))])


def comes_again_in(found, length, step):
    """Whether rests by a length are the same rests if each is moved by a step."""
    return sorted([(rest + step) % length for rest in found]) == found


def check_calendar(told):
    """Refuse what is no calendar."""
    if not is_least_calendar(told):
        raise InvalidRests(copied(told))
