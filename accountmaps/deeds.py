"""What formulas and scripts do: in one state, and for all states as a form."""

from accountmaps.checks import check_formula, check_script, check_state
from accountmaps.forms import check_map
from accountmaps.making import script_for_pieces
from accountmaps.reckoning import Amounts, behind, laid_out, laid_out_scripts, worked_out
from accountmaps.sheets import Sheets, form_of_sheets, hangs


def value(house, formula, state):
    """What a formula is in a state."""
    accounts = house.accounts
    check_formula(accounts, formula)
    check_state(len(accounts), state)
    return worked_out(Amounts(), formula, dict(zip(accounts, state)))


def run(house, script, state):
    """The state behind a script."""
    check_script_of(house, script)
    check_state(len(house.accounts), state)
    script = laid_out(laid_out_scripts(house.scripts), script)
    amounts = behind(Amounts(), script, dict(zip(house.accounts, state)))
    return list(amounts.values())


def states(house, script, state):
    """The states behind each deed of a script."""
    check_script_of(house, script)
    check_state(len(house.accounts), state)
    known = laid_out_scripts(house.scripts)
    amounts = dict(zip(house.accounts, state))
    found = []
    for deed in script:
        amounts = behind(Amounts(), laid_out(known, [deed]), amounts)
        found.append(list(amounts.values()))
    return found


def map_of(house, script):
    """The form of the map of a script."""
    check_script_of(house, script)
    sheets = sheets_behind(house, script)
    return form_of_sheets(list(sheets.values()))


def form_of(house, formulas):
    """The form with a result for each of one or more formulas."""
    accounts = house.accounts
    for formula in formulas:
        check_formula(accounts, formula)
    start = sheets_ahead(accounts)
    return form_of_sheets([worked_out(Sheets(len(accounts)), formula, start) for formula in formulas])


def script_for(house, form):
    """A script whose map has a form."""
    accounts = house.accounts
    check_map(form, len(accounts))
    moduli, pieces = form
    return script_for_pieces(accounts, moduli, pieces, 0)


def changed(house, script):
    """The ascending names of the accounts that a script changes in some state."""
    check_script_of(house, script)
    start, end = sheets_ahead(house.accounts), sheets_behind(house, script)
    return sorted([name for name in start if start[name] != end[name]])


def asked(house, script):
    """The ascending names of the accounts on which hangs what some other account becomes."""
    check_script_of(house, script)
    sheets = sheets_behind(house, script)
    return sorted([name for index, name in enumerate(house.accounts) if is_asked(sheets, name, index)])


def is_asked(sheets, name, index):
    """Whether what another account becomes hangs on an account, told by its name and its index."""
    return any([hangs(sheets[other], index) for other in sheets if other != name])


def check_script_of(house, script):
    """Refuse a script that is none for a house."""
    check_script(house.accounts, [name for name, _ in house.scripts], script)


def sheets_ahead(accounts):
    """The sheets of the accounts before anything is done, by their names."""
    ways = Sheets(len(accounts))
    return {name: ways.account(index) for index, name in enumerate(accounts)}


def sheets_behind(house, script):
    """The sheets of the accounts behind a script, by their names."""
    accounts = house.accounts
    script = laid_out(laid_out_scripts(house.scripts), script)
    return behind(Sheets(len(accounts)), script, sheets_ahead(accounts))
