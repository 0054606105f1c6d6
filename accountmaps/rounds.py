"""What maps do that are done again and again: where they come round, and at which numbers of times."""

from math import lcm

from accountmaps.calendars import calendar_of, check_calendar, common_span, is_least_calendar, truths_of
from accountmaps.checks import check_from_nought, check_index, check_modulus, check_state
from accountmaps.forms import accounts_in_form, check_map
from accountmaps.joining import table_power
from accountmaps.lattices import weighted
from accountmaps.rests import all_rests, least_way
from accountmaps.tables import form_of_table, table_of
from accountmaps.walks import order_of, own_modulus, rests_far_behind, rests_round, rests_walked, state_round
from accountmaps.walks import steps_walked


def power(form, times):
    """The form of a map done so many times."""
    table = table_of_map(form)
    check_from_nought(times)
    return form_of_table(table_power(table, times))


def after(form, state, times, modulus):
    """The rests by a modulus of what a state is behind so many times."""
    table = table_of_map(form)
    check_state(accounts_in_form(form), state)
    check_from_nought(times)
    check_modulus(modulus)
    return list(rests_far_behind(table, state, times, modulus))


def comes_round(form):
    """The least number of times from which on, and behind which, a map comes round; None if it never does."""
    table = table_of_map(form)
    first, length = 0, 1
    for rests in all_rests([own_modulus(table)] * accounts_in_form(form)):
        told = rests_round(table, rests)
        if told is None:
            return None
        first, length = max(first, told[0]), lcm(length, told[1])
    return first, length


def comes_round_at(form, state):
    """The least number of times from which on, and behind which, a state comes round; None if it never does."""
    table = table_of_map(form)
    check_state(accounts_in_form(form), state)
    return state_round(table, state)


def drift(form, state):
    """The least number of times behind which a state is moved, from some time on, by one list of integers; and it."""
    table = table_of_map(form)
    check_state(accounts_in_form(form), state)
    rests, first = rests_walked(table, state, own_modulus(table))
    again = len(rests) - first
    start = first + again * len(state)
    states = steps_walked(table, state, start + again * (order_of(len(state)) + 1))
    # A state is moved by one list behind some length exactly if its single moves come round behind it.
    moves = [tuple([b - a for a, b in zip(one, other)]) for one, other in zip(states[start:], states[start + 1:])]
    for length in range(again, len(moves), again):
        if moves[:again] == moves[length:length + again]:
            _, least = least_way((length,), moves[:length])
            return len(least), [sum(column) for column in zip(*least)]
    return None


def times_when(form, state, weights, modulus, rest):
    """The calendar of the numbers of times behind which the weighted sum of a state has a rest by a modulus."""
    table = table_of_map(form)
    check_state(accounts_in_form(form), state)
    check_state(accounts_in_form(form), weights)
    check_modulus(modulus)
    check_index(rest, modulus)
    lot, first = rests_walked(table, state, lcm(own_modulus(table), modulus))
    return calendar_of([weighted(weights, rests) % modulus == rest for rests in lot], first)


def is_calendar(told):
    """Whether what is told so is a calendar."""
    return is_least_calendar(told)


def both(one, other):
    """The calendar of the numbers that are in two calendars."""
    check_calendar(one)
    check_calendar(other)
    first, most = common_span(one, other)
    pairs = zip(truths_of(one, most), truths_of(other, most))
    return calendar_of([left and right for left, right in pairs], first)


def neither(one, other):
    """The calendar of the numbers from 0 on that are in none of two calendars."""
    check_calendar(one)
    check_calendar(other)
    first, most = common_span(one, other)
    pairs = zip(truths_of(one, most), truths_of(other, most))
    return calendar_of([not left and not right for left, right in pairs], first)


def many_before(told, number):
    """How many numbers of a calendar are less than a number."""
    check_calendar(told)
    check_from_nought(number)
    early, first, length, found = told
    rounds, left = divmod(max(number - first, 0), length)
    late = len([rest for rest in found if rest < left])
    return len([one for one in early if one < number]) + rounds * len(found) + late


def next_from(told, number):
    """The least number of a calendar that is not less than a number, None if there is none."""
    check_calendar(told)
    check_from_nought(number)
    early, first, length, found = told
    for one in early:
        if one >= number:
            return one
    if not found:
        return None
    start = max(number, first)
    rest = (start - first) % length
    later = [other for other in found if other >= rest] + [length + found[0]]
    return start - rest + later[0]


def table_of_map(form):
    """The table of what must be the form of a map."""
    check_map(form, accounts_in_form(form))
    return table_of(form)
