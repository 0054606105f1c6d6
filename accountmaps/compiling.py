"""Programs that do what formulas and scripts do, with nothing of the pile needed."""


def formula_words(formula):
    """The words that put on what a formula is."""
    word = formula[0]
    if word == "number":
        return [("push", formula[1])]
    if word == "account":
        return [("read", formula[1])]
    if word == "times":
        return formula_words(formula[2]) + [("times", formula[1])]
    if word == "rest":
        return formula_words(formula[1]) + [("rest", formula[2])]
    return formula_words(formula[1]) + formula_words(formula[2]) + [(word,)]


def script_words(script):
    """The words that do what a script does that is laid out."""
    return [word for deed in script for word in deed_words(deed)]


def deed_words(deed):
    """The words that do what a deed does that is laid out."""
    word = deed[0]
    if word == "swap":
        return [("read", deed[1]), ("read", deed[2]), ("write", deed[1]), ("write", deed[2])]
    if word == "times":
        return script_words(deed[2]) if deed[1] == 1 else [("repeat", deed[1], script_words(deed[2]))]
    if word == "when":
        chosen = ("choose", deed[2], list(deed[3]), script_words(deed[4]), script_words(deed[5]))
        return formula_words(deed[1]) + [chosen]
    if word == "set":
        return formula_words(deed[2]) + [("write", deed[1])]
    if word == "put":
        return formula_words(deed[2]) + added_to(deed[1])
    # What is moved is there twice: it is taken off what the one account is, which must lie below it.
    taken = [("shift", 1, [1, 1]), ("read", deed[1]), ("shift", 2, [1, 2]), ("less",), ("write", deed[1])]
    return formula_words(deed[3]) + taken + added_to(deed[2])


def added_to(name):
    """The words that add the uppermost thing to an account."""
    return [("read", name), ("plus",), ("write", name)]
