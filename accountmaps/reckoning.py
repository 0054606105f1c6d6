"""How formulas are worked out and scripts are done, with integers or with sheets alike.

What things are reckoned with, and how, is told by ways: Amounts or Sheets. A state is here a dict
of the accounts' names and such things.
"""

from accountmaps.words import scripts_in


class Amounts:
    """The ways to reckon with integers."""

    def number(self, number):
        """The integer that is a number."""
        return number

    def plus(self, one, other):
        """The sum of two integers."""
        return one + other

    def less(self, one, other):
        """The one integer less the other one."""
        return one - other

    def times(self, number, one):
        """An integer, multiplied."""
        return number * one

    def rest(self, one, modulus):
        """The rest of an integer by a modulus."""
        return one % modulus

    def sure(self, rest, rests):
        """Whether a rest is one of some rests: of an integer that never is open, so nothing is ever chosen."""
        return rest in rests


def worked_out(ways, formula, state):
    """What a formula is in a state."""
    word = formula[0]
    if word == "number":
        return ways.number(formula[1])
    if word == "account":
        return state[formula[1]]
    if word == "times":
        return ways.times(formula[1], worked_out(ways, formula[2], state))
    if word == "rest":
        return ways.rest(worked_out(ways, formula[1], state), formula[2])
    one = worked_out(ways, formula[1], state)
    other = worked_out(ways, formula[2], state)
    return ways.plus(one, other) if word == "plus" else ways.less(one, other)


def behind(ways, script, state):
    """The state behind a script that is laid out."""
    for deed in script:
        state = behind_deed(ways, deed, state)
    return state


def behind_deed(ways, deed, state):
    """The state behind a deed that is laid out."""
    word = deed[0]
    if word == "swap":
        return {**state, deed[1]: state[deed[2]], deed[2]: state[deed[1]]}
    if word == "times":
        return behind_times(ways, deed, state)
    if word == "when":
        return behind_when(ways, deed, state)
    amount = worked_out(ways, deed[-1], state)
    if word == "set":
        return {**state, deed[1]: amount}
    if word == "put":
        return {**state, deed[1]: ways.plus(state[deed[1]], amount)}
    less, more = ways.less(state[deed[1]], amount), ways.plus(state[deed[2]], amount)
    return {**state, deed[1]: less, deed[2]: more}


def behind_times(ways, deed, state):
    """The state behind a deed `times`."""
    for _ in range(deed[1]):
        state = behind(ways, deed[2], state)
    return state


def behind_when(ways, deed, state):
    """The state behind a deed `when`."""
    _, formula, modulus, rests, script, other = deed
    rest = ways.rest(worked_out(ways, formula, state), modulus)
    sure = ways.sure(rest, rests)
    if sure is not None:
        return behind(ways, script if sure else other, state)
    ones, others = behind(ways, script, state), behind(ways, other, state)
    return {name: ways.chosen(rest, rests, ones[name], others[name]) for name in state}


def laid_out(known, script):
    """A script with what its names do in their place, known by name and laid out, without deeds that do nothing.

    Scripts that come to no deed at all may be done very often, one within another: so they are left out.
    """
    deeds = [laid_out_deed(known, deed) for deed in script]
    return [deed for deed in deeds if does_any(deed)]


def laid_out_deed(known, deed):
    """A deed that is laid out."""
    word = deed[0]
    if word == "do":
        return ("times", 1, known[deed[1]])
    if word == "times":
        return (word, deed[1], laid_out(known, deed[2]))
    if word == "when":
        return deed[:4] + (laid_out(known, deed[4]), laid_out(known, deed[5]))
    return deed


def does_any(deed):
    """Whether a deed that is laid out comes to any deed."""
    inner = scripts_in(deed)
    if deed[0] == "times" and deed[1] == 0:
        return False
    return not inner or any([len(script) > 0 for script in inner])


def laid_out_scripts(scripts):
    """The scripts of a house by name, laid out."""
    known = {}
    for name, script in scripts:
        known[name] = laid_out(known, script)
    return known
