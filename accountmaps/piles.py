"""Programs on a pile: what they need, what they do, which do the same, and those of formulas and scripts."""

from accountmaps.checks import check_moduli, check_state
from accountmaps.compiling import formula_words, script_words
from accountmaps.deeds import check_script_of, sheets_ahead
from accountmaps.errors import TooShort
from accountmaps.programs import check_names_in, check_program, done_on, gain_of, highest_of, need_of, without_nothing
from accountmaps.reckoning import Amounts, laid_out, laid_out_scripts
from accountmaps.rests import all_rests
from accountmaps.sheets import Sheets, form_of_sheets
from accountmaps.shifting import tidied_words
from accountmaps.tables import difference, results_at, table_of
from accountmaps.words import moduli_in


def need(program):
    """The least number of things that let each word of a program have what it takes."""
    check_program(program)
    return need_of(program)


def gain(program):
    """How many things more lie there behind a program."""
    check_program(program)
    return gain_of(program)


def run_on(house, program, state, pile):
    """The tuple (state, pile) behind a program."""
    accounts = house.accounts
    check_program(program)
    check_names_in(program, accounts)
    check_state(len(accounts), state)
    if len(pile) < need_of(program):
        raise TooShort(need_of(program))
    amounts, things = done_on(Amounts(), without_nothing(program), dict(zip(accounts, state)), list(pile))
    return list(amounts.values()), things


def formula_program(formula):
    """A program without need that puts on what a formula is, and changes nothing else."""
    check_moduli(moduli_in(formula))
    return formula_words(formula)


def program_of(house, script):
    """A program without need that does what a script does, and leaves the pile as it is."""
    check_script_of(house, script)
    return script_words(laid_out(laid_out_scripts(house.scripts), script))


def pile_form(house, program):
    """The form of what a program does with the accounts and the things that it needs."""
    check_program(program)
    check_names_in(program, house.accounts)
    return form_with(house, program, need_of(program))


def as_map(house, program):
    """The form of the map of a program without need and gain, None for another one."""
    check_program(program)
    check_names_in(program, house.accounts)
    if need_of(program) != 0 or gain_of(program) != 0:
        return None
    return form_with(house, program, 0)


def same_programs(house, one, other):
    """Whether two programs have the same gain and do the same to all states and piles."""
    check_two(house, one, other)
    return gain_of(one) == gain_of(other) and first_parted(house, one, other) is None


def parted(house, one, other):
    """A state and a pile of which two programs of the same gain make unlike things, None if there is none."""
    check_two(house, one, other)
    return first_parted(house, one, other) if gain_of(one) == gain_of(other) else None


def tidied(program):
    """A program with each row of neighbouring shifts as one, told in its least way."""
    check_program(program)
    return tidied_words(program)


def highest(program):
    """The greatest number of things more than at the beginning that lie there at any time."""
    check_program(program)
    return highest_of(program)


def check_two(house, one, other):
    """Refuse the first word of two programs that is none, then the first account that there is not."""
    check_program(one)
    check_program(other)
    check_names_in(one + other, house.accounts)


def form_with(house, program, things):
    """The form of what a program does with the accounts and so many things, as many as it needs or more."""
    accounts = house.accounts
    many = len(accounts) + things
    sheets = sheets_ahead(list(range(many)))
    start = {name: sheets[index] for index, name in enumerate(accounts)}
    # The uppermost thing stands first in a form, and last on a pile.
    pile = [sheets[index] for index in reversed(range(len(accounts), many))]
    ends, left = done_on(Sheets(many), without_nothing(program), start, pile)
    return form_of_sheets(list(ends.values()) + left[::-1])


def first_parted(house, one, other):
    """A state and a pile of which two programs of the same gain make unlike things, None if there is none."""
    things = max(need_of(one), need_of(other))
    gap = difference(table_of(form_with(house, one, things)), table_of(form_with(house, other, things)))
    for amounts in states_that_tell(gap[0]):
        if any(results_at(gap, amounts)):
            state, pile = amounts[:len(house.accounts)], amounts[len(house.accounts):]
            return list(state), list(pile)[::-1]
    return None


def states_that_tell(moduli):
    """States of which one has a result that is not 0, if any has: with all rests, and one account a modulus on."""
    found = []
    for rests in all_rests(moduli):
        found.append(rests)
        for place, modulus in enumerate(moduli):
            found.append(rests[:place] + (rests[place] + modulus,) + rests[place + 1:])
    return found
