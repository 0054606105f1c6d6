"""The checks of names, formulas, scripts and states."""

from accountmaps.errors import DoubleName, InvalidModulus, InvalidName, InvalidNumber, InvalidPair
from accountmaps.errors import InvalidRests, InvalidState, UnknownName
from accountmaps.words import accounts_in, formulas_in, moduli_in, names_in, scripts_in

LETTERS = "abcdefghijklmnopqrstuvwxyz"


def is_name(text):
    """Whether a text is a name."""
    return 1 <= len(text) <= 8 and all([letter in LETTERS for letter in text])


def check_names(names):
    """Refuse the first text that is no name."""
    for name in names:
        if not is_name(name):
            raise InvalidName(name)


def check_unlike(names):
    """Refuse the first name that stood before."""
    for place, name in enumerate(names):
        if name in names[:place]:
            raise DoubleName(name)


def check_known(known, names):
    """Refuse the first name that is not one of those that are known."""
    for name in names:
        if name not in known:
            raise UnknownName(name)


def check_moduli(moduli):
    """Refuse the first modulus that is less than 1."""
    for modulus in moduli:
        if modulus < 1:
            raise InvalidModulus(modulus)


def is_ascending_below(numbers, most):
    """Whether some numbers are ascending, unlike, from 0 on and less than so many."""
    return all([low < high for low, high in zip([-1] + numbers, numbers + [most])])


def check_rests(rests, modulus):
    """Refuse rests that are not ascending, or not those of a modulus."""
    if not is_ascending_below(rests, modulus):
        raise InvalidRests(list(rests))


def check_formula(accounts, formula):
    """Refuse a formula that is none of some accounts."""
    check_known(accounts, names_in(formula))
    check_moduli(moduli_in(formula))


def check_deed(accounts, ahead, deed):
    """Refuse a deed for what it says itself."""
    word = deed[0]
    if word in ("move", "swap") and deed[1] == deed[2]:
        raise InvalidPair(deed[1])
    if word == "times" and deed[1] < 0:
        raise InvalidNumber(deed[1])
    if word == "do":
        check_known(ahead, [deed[1]])
    check_known(accounts, accounts_in(deed))
    for formula in formulas_in(deed):
        check_moduli(moduli_in(formula))
    if word == "when":
        check_moduli([deed[2]])
        check_rests(deed[3], deed[2])


def check_script(accounts, ahead, script):
    """Refuse a script for the first deed that is at fault; ahead are the names of scripts that it may do."""
    for deed in script:
        check_deed(accounts, ahead, deed)
        for inner in scripts_in(deed):
            check_script(accounts, ahead, inner)


def check_state(many, state):
    """Refuse a state, or weights, of another number of integers than so many."""
    if len(state) != many:
        raise InvalidState(list(state))


def check_modulus(modulus):
    """Refuse a modulus that is less than 1."""
    check_moduli([modulus])


def check_from_nought(number):
    """Refuse a number that is less than 0."""
    if number < 0:
        raise InvalidNumber(number)


def check_index(index, many):
    """Refuse what is no index of so many things."""
    if not 0 <= index < many:
        raise InvalidNumber(index)
