"""What stands within formulas, deeds and scripts."""


def parts_in(formula):
    """The formulas right within a formula."""
    word = formula[0]
    if word in ("plus", "less"):
        return [formula[1], formula[2]]
    if word == "times":
        return [formula[2]]
    if word == "rest":
        return [formula[1]]
    return []


def names_in(formula):
    """The accounts that a formula names, from the left."""
    if formula[0] == "account":
        return [formula[1]]
    return [name for part in parts_in(formula) for name in names_in(part)]


def moduli_in(formula):
    """The moduli of a formula, from the left."""
    found = [modulus for part in parts_in(formula) for modulus in moduli_in(part)]
    return found + [formula[2]] if formula[0] == "rest" else found


def formulas_in(deed):
    """The formulas that a deed says itself, at most one."""
    word = deed[0]
    if word in ("set", "put"):
        return [deed[2]]
    if word == "move":
        return [deed[3]]
    if word == "when":
        return [deed[1]]
    return []


def changed_in(deed):
    """The accounts that a deed itself names as those to be changed."""
    word = deed[0]
    if word in ("move", "swap"):
        return [deed[1], deed[2]]
    if word in ("set", "put"):
        return [deed[1]]
    return []


def accounts_in(deed):
    """The accounts that a deed names itself, from the left."""
    told = [name for formula in formulas_in(deed) for name in names_in(formula)]
    return changed_in(deed) + told


def scripts_in(deed):
    """The scripts right within a deed."""
    if deed[0] == "times":
        return [deed[2]]
    if deed[0] == "when":
        return [deed[4], deed[5]]
    return []


def names_done(script):
    """The names of the scripts that a script does, at any depth."""
    found = []
    for deed in script:
        if deed[0] == "do":
            found.append(deed[1])
        for inner in scripts_in(deed):
            found.extend(names_done(inner))
    return found
