"""Shifts that stand beside one another, as one shift in its least way.

A shift is told here as a tuple (needs, gives): it takes so many things off, place 1 being the uppermost, and puts
on what lay in the places that are listed, the last one uppermost.
"""

from accountmaps.copies import copied


def tidied_words(program):
    """A program, also those within its words, with each row of neighbouring shifts as one."""
    found = []
    held = (0, [])
    for word in program:
        if word[0] == "shift":
            held = together(held, word[1:])
        else:
            found.extend(shift_words(held) + [tidied_word(word)])
            held = (0, [])
    return found + shift_words(held)


def tidied_word(word):
    """A word, no shift, with the programs within it tidied."""
    if word[0] == "choose":
        return word[:2] + (list(word[2]), tidied_words(word[3]), tidied_words(word[4]))
    if word[0] == "repeat":
        return word[:2] + (tidied_words(word[2]),)
    return copied(word)


def together(one, other):
    """The shift that does the one and then the other one."""
    needs, gives = one
    taken, places = other
    # What the other one takes beyond what the one gives lies deeper: the one takes it too, and leaves it.
    deeper = max(0, taken - len(gives))
    lies = list(range(needs + deeper, needs, -1)) + gives
    return needs + deeper, lies[:len(lies) - taken] + [lies[len(lies) - place] for place in places]


def shift_words(shift):
    """The word for a shift in its least way, as a list, which is empty if it does nothing."""
    needs, gives = shift
    while gives and gives[0] == needs and needs not in gives[1:]:
        needs, gives = needs - 1, gives[1:]
    return [("shift", needs, gives)] if (needs, gives) != (0, []) else []
