"""Texts as DOC.md tells them, and a reading of them that is of no use but to compare: it reads loosely, piece by
piece between blanks, and then asks whether what was read is right and has just this text."""

import random
import re

WORDS = ["set", "put", "move", "swap", "do", "times", "when", "rest", "in", "else"]
NAMES = WORDS + ["a", "b", "zz", "cash", "day", "abcdefgh", "zyxwvuts"]
SIGNS = [chr(code) for code in range(32, 127) if chr(code) != "\x25"]


def told_formula(formula):
    word, *parts = formula
    if word in ("number", "account"):
        return str(parts[0])
    if word == "plus":
        return "(" + told_formula(parts[0]) + " + " + told_formula(parts[1]) + ")"
    if word == "less":
        return "(" + told_formula(parts[0]) + " - " + told_formula(parts[1]) + ")"
    if word == "times":
        return "(" + str(parts[0]) + " * " + told_formula(parts[1]) + ")"
    return "(" + told_formula(parts[0]) + " rest " + str(parts[1]) + ")"


def told_deed(deed):
    word, *parts = deed
    if word in ("set", "put"):
        return word + " " + parts[0] + " " + told_formula(parts[1])
    if word == "move":
        return "move " + parts[0] + " " + parts[1] + " " + told_formula(parts[2])
    if word in ("swap", "do"):
        return " ".join([word] + parts)
    if word == "times":
        return "times " + str(parts[0]) + " [" + told_script(parts[1]) + "]"
    rests = " ".join(str(rest) for rest in parts[2]) or "-"
    return ("when " + told_formula(parts[0]) + " rest " + str(parts[1]) + " in " + rests
            + " [" + told_script(parts[3]) + "] else [" + told_script(parts[4]) + "]")


def told_script(script):
    return "; ".join(told_deed(deed) for deed in script) or "-"


def told_house(accounts, scripts):
    return " ".join(accounts) + "".join(" | " + name + ": " + told_script(script) for name, script in scripts)


def told_state(state):
    return " ".join(str(amount) for amount in state)


class Loose:
    """Reads the pieces of a text from the left; what can't be raises LookupError or ValueError."""

    def __init__(self, text):
        self.pieces = re.sub(r"([()\[\];:|])", r" \1 ", text).split(" ")
        self.pieces = [piece for piece in self.pieces if piece]

    def sees(self, piece):
        return self.pieces[:1] == [piece]

    def next(self, *allowed):
        piece = self.pieces.pop(0)
        if allowed and piece not in allowed:
            raise ValueError(piece)
        return piece

    def name(self):
        piece = self.next()
        if not re.fullmatch("[a-z]{1,8}", piece):
            raise ValueError(piece)
        return piece

    def integer(self):
        piece = self.next()
        if not re.fullmatch("-?[0-9]{1,9}", piece):
            raise ValueError(piece)
        return int(piece)

    def formula(self):
        if not self.sees("("):
            return ("account", self.name()) if re.match("[a-z]", self.pieces[0]) else ("number", self.integer())
        self.next("(")
        one = self.formula()
        word = {"+": "plus", "-": "less", "*": "times", "rest": "rest"}[self.next()]
        other = self.integer() if word == "rest" else self.formula()
        self.next(")")
        if word == "times" and one[0] != "number" or word == "rest" and other < 1:
            raise ValueError(word)
        return (word, one[1] if word == "times" else one, other)

    def script(self):
        if self.sees("-"):
            self.next()
            return []
        found = [self.deed()]
        while self.sees(";"):
            self.next()
            found.append(self.deed())
        return found

    def inner(self):
        self.next("[")
        script = self.script()
        self.next("]")
        return script

    def deed(self):
        word = self.next("set", "put", "move", "swap", "do", "times", "when")
        if word == "times":
            number = self.integer()
            if number < 0:
                raise ValueError(number)
            return (word, number, self.inner())
        if word == "when":
            return self.when()
        names = [self.name() for _ in range({"move": 2, "swap": 2}.get(word, 1))]
        if len(names) == 2 and names[0] == names[1]:
            raise ValueError(names)
        return (word, *names) + (() if word in ("swap", "do") else (self.formula(),))

    def when(self):
        formula = self.formula()
        self.next("rest")
        modulus = self.integer()
        self.next("in")
        rests = []
        if self.sees("-"):
            self.next()
        else:
            while not self.sees("["):
                rests.append(self.integer())
        if modulus < 1 or rests != sorted(set(rests)) or rests and not 0 <= rests[0] <= rests[-1] < modulus:
            raise ValueError(rests)
        script = self.inner()
        self.next("else")
        return ("when", formula, modulus, rests, script, self.inner())

    def state(self):
        found = [self.integer()]
        while self.pieces:
            found.append(self.integer())
        return found

    def house(self):
        accounts = [self.name()]
        while self.pieces and not self.sees("|"):
            accounts.append(self.name())
        scripts = []
        while self.pieces:
            self.next("|")
            name = self.name()
            self.next(":")
            scripts.append((name, self.script()))
        return accounts, scripts


def loosely(text, kind):
    """The thing of a kind (formula, script, state or house) with a text, None if there is none."""
    reader = Loose(text)
    try:
        found = getattr(reader, kind)()
    except (LookupError, ValueError):
        return None
    tell = {"formula": told_formula, "script": told_script, "state": told_state, "house": lambda one: told_house(*one)}
    return found if not reader.pieces and tell[kind](found) == text else None


def some_number(chance):
    return chance.choice([0, 1, -1, 9, 10, -10, chance.randint(-100, 100), 999999999, -999999999,
                          chance.randint(-10 ** 9 + 1, 10 ** 9 - 1)])


def any_formula(chance, deep, names=NAMES):
    word = chance.choice(["number", "account", "plus", "less", "times", "rest"]) if deep > 1 else "account"
    if word == "number" or deep <= 1 and chance.random() < 0.5:
        return ("number", some_number(chance))
    if word == "account":
        return ("account", chance.choice(names))
    if word == "times":
        return (word, some_number(chance), any_formula(chance, deep - 1, names))
    if word == "rest":
        return (word, any_formula(chance, deep - 1, names), chance.choice([1, 2, 7, 12, 999999999]))
    return (word, any_formula(chance, deep - 1, names), any_formula(chance, deep - 1, names))


def any_deed(chance, deep, names=NAMES, done=NAMES):
    word = chance.choice(["set", "put", "move", "swap", "do", "times", "when"][:7 if deep > 1 else 5])
    if word == "do":
        return (word, chance.choice(done)) if done else ("set", names[0], ("number", 0))
    if word == "times":
        return (word, chance.choice([0, 1, 40, 999999999]), any_script(chance, deep - 1, names, done))
    if word == "when":
        modulus = chance.choice([1, 2, 7, 12, 100])
        rests = [rest for rest in range(min(modulus, 12)) if chance.random() < 0.4]
        return (word, any_formula(chance, 2, names), modulus, rests, any_script(chance, deep - 1, names, done),
                any_script(chance, deep - 1, names, done))
    if word in ("set", "put") or len(names) == 1:
        return (chance.choice(["set", "put"]), chance.choice(names), any_formula(chance, 3, names))
    pair = tuple(chance.sample(names, 2))
    return (word,) + pair + (() if word == "swap" else (any_formula(chance, 3, names),))


def any_script(chance, deep, names=NAMES, done=NAMES):
    return [any_deed(chance, deep, names, done) for _ in range(chance.choice([0, 1, 1, 2, 3]))]


def any_house(chance, most=4):
    """The tuple (accounts, scripts) of a house."""
    accounts = chance.sample(NAMES, chance.randint(1, most))
    scripts = []
    for name in chance.sample(NAMES, chance.randint(0, most)):
        scripts.append((name, any_script(chance, 2, accounts, [other for other, _ in scripts])))
    return accounts, scripts


def marred(chance, text):
    """The text with one sign put in, taken out or exchanged, or two that stand side by side."""
    signs = chance.choice([SIGNS, list(" -0159()[];:|+*az"), sorted(set(text)) or [" "]])
    at = chance.randint(0, len(text))
    one = chance.choice(signs)
    return chance.choice([text[:at] + one + text[at:], text[:at] + text[at + 1:], text[:at] + one + text[at + 1:],
                          text[:at] + text[at + 1:at + 2] + text[at:at + 1] + text[at + 2:]])


def swapped_words(chance, text):
    """The text with a word put in, taken out or exchanged."""
    words = re.split(r"( )", text)
    at = chance.randrange(len(words))
    other = chance.choice(WORDS + ["-", "-0", "00", "007", "+5", "1000000000", "abcdefghi", "A", "", "  ", "(", "]"])
    return "".join(words[:at] + chance.choice([[other], [other, " "] + words[at:at + 1], []]) + words[at + 1:])


def chances(seed, many):
    chance = random.Random(seed)
    for _ in range(many):
        yield chance
