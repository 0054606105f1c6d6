"""What reports tell of a question: in all states, of what is seen, by some of them alone, and by a rule."""

from accountmaps.copies import copied
from accountmaps.errors import InvalidNumber, InvalidState
from accountmaps.forms import accounts_in_form, check_form_of, check_form_with, results_in_form
from accountmaps.rests import least_way
from accountmaps.ruling import first_ruled, is_ruled
from accountmaps.solving import point_unlike
from accountmaps.spots import parted_states, seen_by_spots, spots_of, stacked, state_of
from accountmaps.tables import form_of_table, results_at, rows_at, table_of


def told(reports, question):
    """Whether a question is told by reports."""
    return pair(reports, question) is None


def pair(reports, question):
    """Two states that look alike by reports and in which a question is unlike, None if it is told."""
    check_forms_alike(reports + [question])
    check_any(reports)
    return parted_states(looks_of(reports), table_of(question))


def judge_pair(reports, question, told_pair):
    """Whether two states look alike by reports and a question is unlike in them."""
    check_forms_alike(reports + [question])
    check_any(reports)
    one, other = told_pair
    if not len(one) == len(other) == accounts_in_form(question):
        return False
    looks, asks = looks_of(reports), table_of(question)
    return results_at(looks, one) == results_at(looks, other) and results_at(asks, one) != results_at(asks, other)


def fitting(reports, seen):
    """A state that fits what is seen, None if there is none."""
    check_forms_alike(reports)
    check_any(reports)
    check_seen(reports, seen)
    moduli, found = spots_that_fit(reports, stacked([], accounts_in_form(reports[0])), seen)
    if not found:
        return None
    start, _, (turns, _) = found[0]
    return state_of(start, turns, moduli)


def answers(reports, question, seen):
    """What a question is in the states that fit what is seen: sure, open with two of them, or none."""
    check_forms_alike(reports + [question])
    check_any(reports)
    check_seen(reports, seen)
    moduli, found = spots_that_fit(reports, table_of(question), seen)
    if not found:
        return ("none",)
    first, asks, (turns, _) = found[0]
    results = rows_at(asks, turns)
    for start, rows, solution in found:
        others = point_unlike(solution, [row[:-1] + (row[-1] - part,) for row, part in zip(rows, results)])
        if others is not None:
            return "open", state_of(first, turns, moduli), state_of(start, others, moduli)
    return "sure", list(results)


def least_lots(reports, question):
    """The least lots of reports, as ascending indexes, that tell a question."""
    check_forms_alike(reports + [question])
    check_any(reports)
    tables, asks = [table_of(report) for report in reports], table_of(question)
    found = []
    for lot in lots_by_length(len(reports)):
        if not any([all([index in lot for index in less]) for less in found]):
            looks = stacked([tables[index] for index in lot], accounts_in_form(question))
            if parted_states(looks, asks) is None:
                found.append(lot)
    return sorted(found)


def rule(reports, question):
    """A form that makes of the reports' results those of a question, None if there is none."""
    check_forms_alike(reports + [question])
    check_any(reports)
    looks, asks = looks_of(reports), table_of(question)
    if parted_states(looks, asks) is not None:
        return None
    _, spots = spots_of(looks, asks)
    found = first_ruled(spots, results_together(reports))
    if found is None:
        return None
    moduli, pieces = found
    return form_of_table(least_way(moduli, pieces))


def judge_rule(reports, question, told_rule):
    """Whether a form makes of the reports' results those of a question, in every state."""
    check_forms_alike(reports + [question])
    # Without a report nothing is of as many accounts as it should be, so the list needs no check of its own.
    check_form_with(told_rule, results_together(reports), results_in_form(question))
    _, spots = spots_of(looks_of(reports), table_of(question))
    return is_ruled(spots, table_of(told_rule))


def check_forms_alike(forms):
    """Refuse the first that is no form, or has not as many accounts as the first one."""
    for form in forms:
        check_form_of(form, accounts_in_form(forms[0]))


def check_any(forms):
    """Refuse a list without a form."""
    if not forms:
        raise InvalidNumber(0)


def check_seen(reports, seen):
    """Refuse what is seen if it has not as many integers as results for each report."""
    if [len(results) for results in seen] != [results_in_form(report) for report in reports]:
        raise InvalidState(copied(seen))


def looks_of(reports):
    """The table of all results of one or more reports."""
    return stacked([table_of(report) for report in reports], accounts_in_form(reports[0]))


def results_together(reports):
    """How many results reports have together."""
    return sum([results_in_form(report) for report in reports])


def spots_that_fit(reports, asks, seen):
    """The spots in which states fit what is seen [spots.py]."""
    return seen_by_spots(looks_of(reports), asks, [amount for results in seen for amount in results])


def lots_by_length(many):
    """All lots of so many indexes, ascending ones, by their length and then as lists."""
    found, lot = [], [[]]
    while lot:
        found.extend(lot)
        lot = [indexes + [index] for indexes in lot for index in range(max(indexes, default=-1) + 1, many)]
    return found
