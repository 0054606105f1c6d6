"""The texts of formulas, scripts, houses and states."""

from accountmaps.words import changed_in, formulas_in


def show_formula(formula):
    """The text of a formula."""
    word = formula[0]
    if word in ("number", "account"):
        return str(formula[1])
    if word == "times":
        return f"({formula[1]} * {show_formula(formula[2])})"
    if word == "rest":
        return f"({show_formula(formula[1])} rest {formula[2]})"
    sign = "+" if word == "plus" else "-"
    return f"({show_formula(formula[1])} {sign} {show_formula(formula[2])})"


def show_script(script):
    """The text of a script."""
    return "; ".join([show_deed(deed) for deed in script]) if script else "-"


def show_house(house):
    """The text of a house."""
    scripts = [f" | {name}: {show_script(script)}" for name, script in house.scripts]
    return " ".join(house.accounts) + "".join(scripts)


def show_state(state):
    """The text of a state."""
    return " ".join([str(amount) for amount in state])


def show_deed(deed):
    """The text of a deed."""
    word = deed[0]
    if word == "do":
        return f"do {deed[1]}"
    if word == "times":
        return f"times {deed[1]} [{show_script(deed[2])}]"
    if word == "when":
        _, formula, modulus, rests, script, other = deed
        ahead = f"when {show_formula(formula)} rest {modulus} in {show_rests(rests)}"
        return f"{ahead} [{show_script(script)}] else [{show_script(other)}]"
    return " ".join([word] + changed_in(deed) + [show_formula(formula) for formula in formulas_in(deed)])


def show_rests(rests):
    """The text of some rests."""
    return " ".join([str(rest) for rest in rests]) if rests else "-"
