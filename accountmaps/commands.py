"""The texts by which a desk is led: each is a word, alone or with a script, a name or a number behind it."""

from accountmaps.errors import Unreadable
from accountmaps.reader import Reader
from accountmaps.readings import read_script

ALONE = ("undo", "state", "forks", "locks", "log", "map")
NAMED = ("switch", "merge", "lock", "unlock", "branch")


def read_command(text):
    """The tuple of the word of a text and what stands behind it, None if it stands alone."""
    if text in ALONE:
        return text, None
    word, _, behind = text.partition(" ")
    try:
        return word, thing_behind(word, behind)
    except Unreadable:
        raise Unreadable(text) from None


def thing_behind(word, text):
    """The script, the name or the number that a text tells behind a word."""
    if word == "do":
        return read_script(text)
    reader = Reader(text)
    reader.need(word == "out" or word in NAMED)
    found = reader.integer_from(0) if word == "out" else reader.word()
    reader.end()
    return found
