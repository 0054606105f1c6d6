"""Programs: what their words must be, what they need and gain, and how they are done on a pile.

What things are reckoned with is told by ways, Amounts or Sheets, as in reckoning.py; a state is a dict of the
accounts' names and such things, and a pile a list of them, the last one uppermost.
"""

from accountmaps.checks import check_known, is_ascending_below
from accountmaps.copies import copied
from accountmaps.errors import InvalidWord

# How many parts each word has, with the word itself.
PARTS = {"push": 2, "read": 2, "write": 2, "shift": 3, "plus": 1, "less": 1, "times": 2, "rest": 2, "choose": 5,
         "repeat": 3}


def programs_in(word):
    """The programs right within a word."""
    if word[0] == "choose":
        return [word[3], word[4]]
    return [word[2]] if word[0] == "repeat" else []


def is_word(word):
    """Whether a word is one, but for what is within it."""
    if PARTS.get(word[0], 0) != len(word):
        return False
    if word[0] == "shift":
        return word[1] >= 0 and all([1 <= place <= word[1] for place in word[2]])
    if word[0] == "choose":
        return word[1] >= 1 and is_ascending_below(word[2], word[1])
    if word[0] == "repeat":
        return word[1] >= 0
    return word[0] != "rest" or word[1] >= 1


def check_program(program):
    """Refuse the first word of a program that is none."""
    for word in program:
        if not is_word(word):
            raise InvalidWord(copied(word))
        for inner in programs_in(word):
            check_program(inner)
        if word[0] == "choose" and gain_of(word[3]) != gain_of(word[4]):
            raise InvalidWord(copied(word))


def check_names_in(program, accounts):
    """Refuse the first account that a program names and that there is not."""
    for word in program:
        if word[0] in ("read", "write"):
            check_known(accounts, [word[1]])
        for inner in programs_in(word):
            check_names_in(inner, accounts)


def gain_of(program):
    """How many things more lie there behind a program."""
    return sum([gain_of_word(word) for word in program])


def gain_of_word(word):
    """How many things more lie there behind a word."""
    if word[0] == "shift":
        return len(word[2]) - word[1]
    if word[0] == "choose":
        return gain_of(word[3]) - 1
    if word[0] == "repeat":
        return word[1] * gain_of(word[2])
    if word[0] in ("push", "read"):
        return 1
    return 0 if word[0] in ("times", "rest") else -1


def need_of(program):
    """The least number of things that let each word of a program have what it takes."""
    needed, gained = 0, 0
    for word in program:
        needed = max(needed, need_of_word(word) - gained)
        gained = gained + gain_of_word(word)
    return needed


def need_of_word(word):
    """The least number of things that a word must have."""
    if word[0] == "shift":
        return word[1]
    if word[0] == "choose":
        return 1 + max(need_of(word[3]), need_of(word[4]))
    if word[0] == "repeat":
        # Where a program takes off more than it gives, it needs most the last time.
        lost = max(0, -gain_of(word[2]))
        return need_of(word[2]) + (word[1] - 1) * lost if word[1] > 0 else 0
    if word[0] in ("push", "read"):
        return 0
    return 2 if word[0] in ("plus", "less") else 1


def highest_of(program):
    """The greatest number of things more than at the beginning that lie there at any time."""
    most, gained = 0, 0
    for word in program:
        most = max(most, gained + highest_of_word(word))
        gained = gained + gain_of_word(word)
    return most


def highest_of_word(word):
    """The greatest number of things more than ahead of a word that lie there at any time."""
    if word[0] == "choose":
        return max(0, max(highest_of(word[3]), highest_of(word[4])) - 1)
    if word[0] == "repeat":
        won = max(0, gain_of(word[2]))
        return highest_of(word[2]) + (word[1] - 1) * won if word[1] > 0 else 0
    return max(0, gain_of_word(word))


def without_nothing(program):
    """A program without words that repeat nothing: they could do so very often, one within another."""
    found = []
    for word in program:
        if word[0] == "repeat":
            inner = without_nothing(word[2])
            if inner and word[1] > 0:
                found.append((word[0], word[1], inner))
        elif word[0] == "choose":
            found.append(word[:3] + (without_nothing(word[3]), without_nothing(word[4])))
        else:
            found.append(word)
    return found


def done_on(ways, program, state, pile):
    """The tuple (state, pile) behind a program."""
    for word in program:
        if word[0] == "choose":
            state, pile = chosen_on(ways, word, state, pile)
        elif word[0] == "repeat":
            for _ in range(word[1]):
                state, pile = done_on(ways, word[2], state, pile)
        elif word[0] == "write":
            state, pile = {**state, word[1]: pile[-1]}, pile[:-1]
        else:
            pile = pile_behind(ways, word, state, pile)
    return state, pile


def pile_behind(ways, word, state, pile):
    """The pile behind a word that changes nothing else."""
    if word[0] == "push":
        return pile + [ways.number(word[1])]
    if word[0] == "read":
        return pile + [state[word[1]]]
    if word[0] == "shift":
        return pile[:len(pile) - word[1]] + [pile[len(pile) - place] for place in word[2]]
    if word[0] == "plus":
        return pile[:-2] + [ways.plus(pile[-2], pile[-1])]
    if word[0] == "less":
        return pile[:-2] + [ways.less(pile[-2], pile[-1])]
    if word[0] == "times":
        return pile[:-1] + [ways.times(word[1], pile[-1])]
    return pile[:-1] + [ways.rest(pile[-1], word[1])]


def chosen_on(ways, word, state, pile):
    """The tuple (state, pile) behind a word `choose`."""
    _, modulus, rests, program, other = word
    rest, pile = ways.rest(pile[-1], modulus), pile[:-1]
    sure = ways.sure(rest, rests)
    if sure is not None:
        return done_on(ways, program if sure else other, state, pile)
    ones, first = done_on(ways, program, state, pile)
    others, second = done_on(ways, other, state, pile)
    both = {name: ways.chosen(rest, rests, ones[name], others[name]) for name in state}
    return both, [ways.chosen(rest, rests, one, two) for one, two in zip(first, second)]
