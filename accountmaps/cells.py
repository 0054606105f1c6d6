"""What narrow cells make of maps and scripts."""

from accountmaps.boxes import check_box
from accountmaps.checks import check_state
from accountmaps.deeds import check_script_of, sheets_ahead
from accountmaps.firsts import first_within
from accountmaps.forms import accounts_in_form, check_form, check_map, check_maps
from accountmaps.frames import check_cells, check_frame, keeping, kept_step_by_step, least_cell, span_of_cell
from accountmaps.joining import table_behind
from accountmaps.reckoning import Amounts, behind, laid_out, laid_out_scripts
from accountmaps.sheets import Sheets, form_of_sheets
from accountmaps.tables import difference, form_of_table, table_of


def kept_as(frame, state):
    """The state that a frame keeps of a state."""
    check_cells(frame)
    check_state(len(frame), state)
    amounts = behind(Amounts(), keeping(cells_by_index(frame), list(range(len(frame)))), dict(enumerate(state)))
    return list(amounts.values())


def frame_form(frame):
    """The form of the map that keeps all accounts in a frame."""
    check_cells(frame)
    return form_of_table(table_of_frame(frame))


def framed(form, frame):
    """The form of a map, then kept in a frame."""
    check_map(form, accounts_in_form(form))
    check_frame(frame, accounts_in_form(form))
    return form_of_table(table_behind(table_of(form), table_of_frame(frame)))


def stepwise(house, script, frame):
    """The form of a script if all is kept in a frame at first and behind each deed that is done."""
    check_kept_script(house, script, frame)
    return form_of_sheets(list(stepwise_sheets(house, script, frame).values()))


def is_late(house, script, frame):
    """Whether it is enough to keep all at the end, of each state that a frame keeps as it is."""
    check_kept_script(house, script, frame)
    return stepwise_sheets(house, script, frame) == late_sheets(house, script, frame)


def first_early(house, script, frame):
    """The first state that a frame keeps as it is and of which that is not enough, None if there is none."""
    check_kept_script(house, script, frame)
    tables = [table_of(form_of_sheets(list(sheets.values())))
              for sheets in (stepwise_sheets(house, script, frame), late_sheets(house, script, frame))]
    return first_within(difference(tables[0], tables[1]), spans_of(frame))


def spills(form, frame):
    """The first state that a frame keeps as it is and of which a map makes one that it does not, or None."""
    check_map(form, accounts_in_form(form))
    check_frame(frame, accounts_in_form(form))
    keeps = table_of_frame(frame)
    made = table_behind(keeps, table_of(form))
    return first_within(difference(made, table_behind(made, keeps)), spans_of(frame))


def same_kept(one, other, frame):
    """Whether two maps, then kept, make the same of each state that a frame keeps as it is."""
    check_maps([one, other])
    check_frame(frame, accounts_in_form(one))
    keeps = table_of_frame(frame)
    tables = [table_behind(table_behind(keeps, table_of(form)), keeps) for form in (one, other)]
    return tables[0] == tables[1]


def cells_for(form):
    """The least cells that keep all results of a form in all states, None for one that no cell keeps."""
    check_form(form)
    _, pieces = table_of(form)
    return [cell_for([rows[result] for rows in pieces]) for result in range(len(pieces[0]))]


def frame_of(box):
    """The least cells that keep the amounts of a box, None for those that no cell keeps."""
    check_box(box, max(len(box), 1))
    return [least_cell(low, high) for low, high in box]


def fewest_keeps(house, script, frame):
    """The first of the fewest deeds of a script behind which all must be kept, besides at first and at the end, so
    that the same comes of it as if it is kept behind each; None if there are none."""
    check_kept_script(house, script, frame)
    accounts, known, ways = house.accounts, laid_out_scripts(house.scripts), Sheets(len(house.accounts))
    keeps = keeping(dict(zip(accounts, frame)), accounts)
    lots = [([], sheets_kept(house, frame))]
    for index, deed in enumerate(script):
        ends = [(lot, behind(ways, laid_out(known, [deed]), sheets)) for lot, sheets in lots]
        lots = ends + [(lot + [index], behind(ways, keeps, sheets)) for lot, sheets in ends]
    wished = stepwise_sheets(house, script, frame)
    found = [(len(lot), lot) for lot, sheets in lots if behind(ways, keeps, sheets) == wished]
    return min(found)[1] if found else None


def check_kept_script(house, script, frame):
    """Refuse a script that is none for a house, and a frame that does not fit."""
    check_script_of(house, script)
    check_frame(frame, len(house.accounts))


def cells_by_index(frame):
    """The cells of a frame by the indexes of the accounts."""
    return dict(enumerate(frame))


def spans_of(frame):
    """The spans of the amounts that a frame keeps as they are."""
    return [span_of_cell(cell) for cell in frame]


def table_of_frame(frame):
    """The table of the map that keeps all accounts in a frame."""
    indexes = list(range(len(frame)))
    sheets = behind(Sheets(len(frame)), keeping(cells_by_index(frame), indexes), sheets_ahead(indexes))
    return table_of(form_of_sheets(list(sheets.values())))


def sheets_kept(house, frame):
    """The sheets of the accounts of a house that are kept in a frame at first."""
    accounts = house.accounts
    return behind(Sheets(len(accounts)), keeping(dict(zip(accounts, frame)), accounts), sheets_ahead(accounts))


def stepwise_sheets(house, script, frame):
    """The sheets of the accounts behind a script if all is kept at first and behind each deed that is done."""
    accounts = house.accounts
    steps = kept_step_by_step(dict(zip(accounts, frame)), laid_out(laid_out_scripts(house.scripts), script))
    return behind(Sheets(len(accounts)), steps, sheets_kept(house, frame))


def late_sheets(house, script, frame):
    """The sheets of the accounts behind a script if all is kept at first and at the end alone."""
    accounts = house.accounts
    keeps = keeping(dict(zip(accounts, frame)), accounts)
    deeds = laid_out(laid_out_scripts(house.scripts), script) + keeps
    return behind(Sheets(len(accounts)), deeds, sheets_kept(house, frame))


def cell_for(rows):
    """The least cell that keeps what some rows are in all states, None if none does."""
    if any([any(row[:-1]) for row in rows]):
        return None
    amounts = [row[-1] for row in rows]
    return least_cell(min(amounts), max(amounts))
