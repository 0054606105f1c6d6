"""What texts are the texts of."""

from accountmaps.checks import is_ascending_below
from accountmaps.errors import HouseError, Unreadable
from accountmaps.houses import House
from accountmaps.reader import Reader


def read_formula(text):
    """The formula with a text."""
    reader = Reader(text)
    formula = next_formula(reader)
    reader.end()
    return formula


def read_script(text):
    """The script with a text."""
    reader = Reader(text)
    script = next_script(reader)
    reader.end()
    return script


def read_house(text):
    """The house with a text."""
    reader = Reader(text)
    accounts = [reader.word()]
    while reader.stands(" ") and not reader.stands(" | "):
        reader.take(" ")
        accounts.append(reader.word())
    scripts = []
    while reader.passes(" | "):
        name = reader.word()
        reader.take(": ")
        scripts.append((name, next_script(reader)))
    reader.end()
    try:
        return House(accounts, scripts)
    except HouseError:
        raise Unreadable(text) from None


def read_state(text):
    """The state with a text."""
    reader = Reader(text)
    state = [reader.integer()]
    while reader.passes(" "):
        state.append(reader.integer())
    reader.end()
    return state


def next_formula(reader):
    """The formula that stands next."""
    if reader.passes("("):
        formula = next_parts(reader, next_formula(reader))
        reader.take(")")
        return formula
    return ("number", reader.integer()) if reader.stands_integer() else ("account", reader.word())


def next_parts(reader, one):
    """The formula of which one part, perhaps a number alone, stood before, and the others stand next."""
    if reader.passes(" + "):
        return "plus", one, next_formula(reader)
    if reader.passes(" - "):
        return "less", one, next_formula(reader)
    if reader.passes(" * "):
        reader.need(one[0] == "number")
        return "times", one[1], next_formula(reader)
    reader.take(" rest ")
    return "rest", one, reader.integer_from(1)


def next_script(reader):
    """The script that stands next."""
    if reader.passes("-"):
        return []
    script = [next_deed(reader)]
    while reader.passes("; "):
        script.append(next_deed(reader))
    return script


def next_deed(reader):
    """The deed that stands next."""
    word = reader.word()
    reader.take(" ")
    if word == "times":
        return word, reader.integer_from(0), next_inner(reader, " [")
    if word == "when":
        return next_when(reader)
    reader.need(word in ("set", "put", "move", "swap", "do"))
    deed = (word, reader.word())
    if word in ("move", "swap"):
        reader.take(" ")
        deed = deed + (reader.word(),)
        reader.need(deed[1] != deed[2])
    if word in ("set", "put", "move"):
        reader.take(" ")
        deed = deed + (next_formula(reader),)
    return deed


def next_when(reader):
    """The deed `when` of which what is behind this word stands next."""
    formula = next_formula(reader)
    reader.take(" rest ")
    modulus = reader.integer_from(1)
    reader.take(" in ")
    rests = next_rests(reader)
    reader.need(is_ascending_below(rests, modulus))
    return "when", formula, modulus, rests, next_inner(reader, " ["), next_inner(reader, " else [")


def next_inner(reader, ahead):
    """The script that stands next in brackets, behind some signs."""
    reader.take(ahead)
    script = next_script(reader)
    reader.take("]")
    return script


def next_rests(reader):
    """The rests that stand next."""
    if reader.passes("-"):
        return []
    rests = [reader.integer()]
    while not reader.stands(" ["):
        reader.take(" ")
        rests.append(reader.integer())
    return rests
