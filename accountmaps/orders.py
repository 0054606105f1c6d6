"""Maps that pass one another, and what that lets be done with logs: orders, merges, conflicts."""

from accountmaps.errors import InvalidNumber, InvalidState
from accountmaps.firsts import first_with_results
from accountmaps.forms import accounts_in_form, check_maps
from accountmaps.joining import table_behind
from accountmaps.rests import all_rests
from accountmaps.tables import difference, fixed, form_of_table, results_at, same_table, table_of


def pass_each_other(one, other):
    """Whether two maps do the same in either order, for all states."""
    check_maps([one, other])
    return tables_pass(table_of(one), table_of(other))


def clash(one, other):
    """The first state of which two maps make unlike ones in the two orders, None if there is none."""
    check_maps([one, other])
    first, second = table_of(one), table_of(other)
    return first_with_results(difference(table_behind(first, second), table_behind(second, first)))


def clashes(log):
    """The tuples of the indexes of the maps of a log that do not pass one another, ascending."""
    check_maps(log)
    return clashes_of([table_of(form) for form in log])


def outcomes(log):
    """How many unlike maps come of a log in all orders."""
    check_maps(log)
    if not log:
        return 1
    tables = [table_of(form) for form in log]
    found = {((), fixed(same_table(accounts_in_form(log[0])))): True}
    for _ in tables:
        more = {}
        for done, table in found:
            for index in range(len(tables)):
                if index not in done:
                    more[(tuple(sorted(done + (index,))), fixed(table_behind(table, tables[index])))] = True
        found = more
    return len(found)


def swaps(log, order):
    """The first of the shortest lists of places at which neighbours change places until an order stands, or None."""
    check_maps(log)
    if sorted(order) != list(range(len(log))):
        raise InvalidState(list(order))
    # Two maps must change places once if they stand the other way round in the order, and else never.
    for one, other in clashes_of([table_of(form) for form in log]):
        if order.index(one) > order.index(other):
            return None
    standing = [order.index(index) for index in range(len(log))]
    found = []
    while standing != sorted(standing):
        place = min([place for place in range(len(standing) - 1) if standing[place] > standing[place + 1]])
        standing[place], standing[place + 1] = standing[place + 1], standing[place]
        found.append(place)
    return found


def first_log(log):
    """The first, as lists of forms, of the logs to which a log can be led by neighbours that change places."""
    check_maps(log)
    left = [(form_of_table(table_of(form)), index) for index, form in enumerate(log)]
    barred = clashes_of([table_of(form) for form in log])
    found = []
    while left:
        indexes = [index for _, index in left]
        free = [(form, index) for form, index in left
                if not any([(other, index) in barred for other in indexes if other < index])]
        found.append(min(free))
        left = [pair for pair in left if pair != found[-1]]
    return [form for form, _ in found]


def merged(base, one, other):
    """The form of a log, then one and then another one, if the other way round does the same; None if not."""
    first, second = both_ways(base, one, other)
    return form_of_table(first) if first == second else None


def merge_clash(base, one, other):
    """The first state of which a log makes unlike ones with two others behind it in the two orders, or None."""
    first, second = both_ways(base, one, other)
    return first_with_results(difference(first, second))


def classes(log):
    """How many of all orders of a log are left if orders that can be led to one another count as one."""
    check_maps(log)
    barred = clashes_of([table_of(form) for form in log])
    # Orders can be led to one another exactly if the maps that do not pass stand alike in both.
    found = {}
    for order in all_orders(len(log)):
        found[tuple([order.index(one) < order.index(other) for one, other in barred])] = True
    return len(found)


def apart_pairs(one, other):
    """As many tuples (index, other index) as can be of maps of two logs that do not pass, no index twice."""
    check_maps(one + other)
    barred = apart_in(one, other)
    owners = {}
    for index in range(len(one)):
        pair_off(barred, index, owners, {})
    return sorted([(owners[index], index) for index in owners])


def least_conflicts(one, other):
    """All tuples of as few indexes as can be, of two logs, without whose maps all maps of both pass, ascending."""
    check_maps(one + other)
    barred = apart_in(one, other)
    found = []
    for gone in all_lots(len(one)):
        others = [index for index in range(len(other))
                  if any([(place, index) in barred for place in range(len(one)) if place not in gone])]
        found.append((gone, others))
    least = min([len(gone) + len(others) for gone, others in found])
    return sorted([(gone, others) for gone, others in found if len(gone) + len(others) == least])


def tables_pass(one, other):
    """Whether the maps of two tables pass one another."""
    # Those that do not mostly show it in a few states; the tables behind one another may be far greater than both.
    for state in states_ahead(one) + states_ahead(other):
        if results_at(other, results_at(one, state)) != results_at(one, results_at(other, state)):
            return False
    return table_behind(one, other) == table_behind(other, one)


def states_ahead(table):
    """Two states with each tuple of rests by the moduli of a table."""
    moduli, _ = table
    found = all_rests(moduli)
    return found + [tuple([rest + modulus for rest, modulus in zip(rests, moduli)]) for rests in found]


def clashes_of(tables):
    """The tuples of the indexes of tables whose maps do not pass one another, ascending."""
    return [(index, other) for index in range(len(tables)) for other in range(index + 1, len(tables))
            if not tables_pass(tables[index], tables[other])]


def apart_in(one, other):
    """The tuples (index, other index) of the maps of two logs that do not pass one another."""
    tables, others = [table_of(form) for form in one], [table_of(form) for form in other]
    return [(index, place) for index, table in enumerate(tables) for place, behind in enumerate(others)
            if not tables_pass(table, behind)]


def both_ways(base, one, other):
    """The tables of a log with two others behind it, in the two orders."""
    log = base + one + other
    check_maps(log)
    if not log:
        raise InvalidNumber(0)
    return table_of_log(log), table_of_log(base + other + one)


def table_of_log(log):
    """The table of the map of a log with at least one map."""
    found = same_table(accounts_in_form(log[0]))
    for form in log:
        found = table_behind(found, table_of(form))
    return found


def pair_off(barred, index, owners, tried):
    """Give an index of the one log an index of the other one, of which the owner may have to take another one."""
    for one, other in barred:
        if one == index and other not in tried:
            tried[other] = True
            if other not in owners or pair_off(barred, owners[other], owners, tried):
                owners[other] = index
                return True
    return False


def all_orders(many):
    """All orders of so many indexes."""
    found = [[]]
    for index in range(many):
        found = [order[:place] + [index] + order[place:] for order in found for place in range(len(order) + 1)]
    return found


def all_lots(many):
    """All ascending lists of indexes less than so many."""
    found = [[]]
    for index in range(many):
        found = found + [lot + [index] for lot in found]
    return found
