"""What can be taken back: maps, and maps of logs at any place."""

from accountmaps.checks import check_index
from accountmaps.forms import accounts_in_form, check_map, check_maps, check_some_maps
from accountmaps.inverses import fallen_states, first_never_made, makes_all, table_back
from accountmaps.joining import table_behind
from accountmaps.spots import parted_states
from accountmaps.tables import form_of_table, same_table, table_of


def is_one_to_one(form):
    """Whether a map makes unlike states of unlike ones."""
    check_own_map(form)
    return fallen_states(table_of(form)) is None


def fallen_together(form):
    """A tuple of two unlike states of which a map makes the same, None if there is none."""
    check_own_map(form)
    return fallen_states(table_of(form))


def is_onto(form):
    """Whether a map makes each state of one."""
    check_own_map(form)
    return makes_all(table_of(form))


def never_made(form):
    """The first state that a map makes of none, None if there is none."""
    check_own_map(form)
    return first_never_made(table_of(form))


def back(form):
    """The form of the map that takes a map back, None if there is none."""
    check_own_map(form)
    found = table_back(table_of(form))
    return None if found is None else form_of_table(found)


def whole(log):
    """The form of a log's map."""
    check_some_maps(log)
    return form_of_table(joined_tables(tables_of_log(log)))


def can_take_out(log, index):
    """Whether what the whole log makes tells what it makes without a map."""
    check_some_maps(log)
    check_index(index, len(log))
    tables = tables_of_log(log)
    return parted_states(joined_tables(tables), joined_without(tables, index)) is None


def taken_out(log, index):
    """The form of the map that makes, behind the whole log, what it makes without a map, None if it or one behind
    it can't be taken back."""
    check_some_maps(log)
    check_index(index, len(log))
    return put_in(tables_of_log(log), index, [])


def amended(log, index, form):
    """The form of the map that makes, behind the whole log, what it makes with another map in the place of one,
    None if that one or one behind it can't be taken back."""
    check_maps(log + [form])
    check_some_maps(log)
    check_index(index, len(log))
    return put_in(tables_of_log(log), index, [table_of(form)])


def idle_maps(log):
    """The ascending indexes of the maps without each of which a log does the same."""
    check_some_maps(log)
    tables = tables_of_log(log)
    made = joined_tables(tables)
    return [index for index in range(len(tables)) if joined_without(tables, index) == made]


def check_own_map(form):
    """Refuse what is no form of a map."""
    check_map(form, accounts_in_form(form))


def tables_of_log(log):
    """The tables of the maps of a log."""
    return [table_of(form) for form in log]


def joined_tables(tables):
    """The table of the map of one or more tables, one behind the other."""
    found = tables[0]
    for table in tables[1:]:
        found = table_behind(found, table)
    return found


def joined_without(tables, index):
    """The table of the map of some tables, one behind the other, without the one with an index."""
    nothing = same_table(len(tables[0][0]))
    return joined_tables([nothing] + tables[:index] + tables[index + 1:])


def put_in(tables, index, others):
    """The form of the map that leads all from an index on back, then does others and what was behind it again."""
    backs = [table_back(table) for table in tables[index:]]
    if None in backs:
        return None
    return form_of_table(joined_tables(backs[::-1] + others + tables[index + 1:]))
