"""What the tests share: errors that are caught, a plain interpreter, and made-up houses and scripts.

The interpreter follows DOC.md word for word, one state at a time, and uses nothing of the program.
"""

import random


def error_of(call, *things, **named):
    """The tuple (class, value) of the error that a call raises; None if it raises none."""
    try:
        call(*things, **named)
    except ValueError as error:
        return type(error), error.value
    return None


def lists_within(thing):
    """All lists within a thing, itself too, one for each place."""
    found = [thing] if isinstance(thing, list) else []
    if isinstance(thing, (list, tuple)):
        for part in thing:
            found.extend(lists_within(part))
    return found


def are_apart(*things):
    """Whether no list stands in two places of some things."""
    places = [id(one) for thing in things for one in lists_within(thing)]
    return len(places) == len(set(places))


def spoil(thing):
    """Change every list within a thing."""
    for one in lists_within(thing):
        one.append("spoilt")


def plain_value(formula, amounts):
    word = formula[0]
    if word == "number":
        return formula[1]
    if word == "account":
        return amounts[formula[1]]
    if word == "plus":
        return plain_value(formula[1], amounts) + plain_value(formula[2], amounts)
    if word == "less":
        return plain_value(formula[1], amounts) - plain_value(formula[2], amounts)
    if word == "times":
        return formula[1] * plain_value(formula[2], amounts)
    value = plain_value(formula[1], amounts)
    while value < 0 or value >= formula[2]:
        value -= (value // formula[2]) * formula[2]
    return value


def plain_deed(scripts, deed, amounts):
    word = deed[0]
    if word == "set":
        amounts[deed[1]] = plain_value(deed[2], amounts)
    elif word == "put":
        amounts[deed[1]] += plain_value(deed[2], amounts)
    elif word == "move":
        moved = plain_value(deed[3], amounts)
        amounts[deed[1]] -= moved
        amounts[deed[2]] += moved
    elif word == "swap":
        amounts[deed[1]], amounts[deed[2]] = amounts[deed[2]], amounts[deed[1]]
    elif word == "do":
        plain_script(scripts, scripts[deed[1]], amounts)
    elif word == "times":
        for _ in range(deed[1]):
            plain_script(scripts, deed[2], amounts)
    elif plain_value(("rest", deed[1], deed[2]), amounts) in deed[3]:
        plain_script(scripts, deed[4], amounts)
    else:
        plain_script(scripts, deed[5], amounts)


def plain_script(scripts, script, amounts):
    for deed in script:
        plain_deed(scripts, deed, amounts)


def plain_run(accounts, scripts, script, state):
    """The state behind a script, the scripts of the house being a list of tuples."""
    amounts = dict(zip(accounts, state))
    plain_script(dict(scripts), script, amounts)
    return [amounts[name] for name in accounts]


def all_rests(moduli):
    found = [()]
    for modulus in moduli:
        found = [rests + (rest,) for rests in found for rest in range(modulus)]
    return found


def form_at(form, state):
    """The results of a form in a state."""
    moduli, pieces = form
    table = dict(zip(all_rests(moduli), pieces))
    matrix, amounts = table[tuple(one % modulus for one, modulus in zip(state, moduli))]
    return [sum(a * b for a, b in zip(row, state)) + amount for row, amount in zip(matrix, amounts)]


def has_shape(form, accounts, results):
    """Whether a form is of the kinds and numbers of things that it should be."""
    moduli, pieces = form
    tables = len(all_rests(moduli)) == len(pieces) and len(moduli) == accounts
    kinds = [isinstance(form, tuple), isinstance(moduli, list), isinstance(pieces, list)]
    for piece in pieces:
        matrix, amounts = piece
        kinds.extend([isinstance(piece, tuple), isinstance(matrix, list), isinstance(amounts, list)])
        kinds.append(len(matrix) == len(amounts) == results)
        kinds.extend(isinstance(row, list) and len(row) == accounts for row in matrix)
    return tables and all(kinds)


def is_least(form):
    """Whether none of a form's moduli could be less: each divisor of it would tell two pieces as one."""
    moduli, pieces = form
    table = dict(zip(all_rests(moduli), pieces))

    def turned(rests, place, by):
        return rests[:place] + ((rests[place] + by) % moduli[place],) + rests[place + 1:]

    for place, modulus in enumerate(moduli):
        for divisor in range(1, modulus):
            if modulus % divisor == 0:
                if all(table[rests] == table[turned(rests, place, divisor)] for rests in table):
                    return False
    return True


def states_for(chance, accounts, many, most):
    """Some states, those near nought among them."""
    near = [[chance.randint(-3, 3) for _ in range(accounts)] for _ in range(many)]
    far = [[chance.randint(-most, most) for _ in range(accounts)] for _ in range(many)]
    return [[0] * accounts] + near + far


def some_formula(chance, accounts, moduli, deep):
    word = chance.choice(["number", "account", "plus", "less", "times", "rest"])
    if deep == 0 or word == "account":
        return ("account", chance.choice(accounts))
    if word == "number":
        return ("number", chance.randint(-100, 100))
    one = some_formula(chance, accounts, moduli, deep - 1)
    if word == "times":
        return ("times", chance.randint(-4, 4), one)
    if word == "rest":
        return ("rest", one, chance.choice(moduli))
    return (word, one, some_formula(chance, accounts, moduli, deep - 1))


def some_deed(chance, accounts, moduli, ahead, deep):
    word = chance.choice(["set", "put", "move", "swap", "do", "times", "when"])
    if word in ("times", "when") and deep == 0 or word == "do" and not ahead:
        word = "put"
    if word in ("move", "swap") and len(accounts) == 1:
        word = "set"
    if word in ("set", "put"):
        return (word, chance.choice(accounts), some_formula(chance, accounts, moduli, 3))
    if word == "do":
        return (word, chance.choice(ahead))
    if word == "times":
        return (word, chance.randint(0, 3), some_script(chance, accounts, moduli, ahead, deep - 1))
    if word == "when":
        modulus = chance.choice(moduli)
        rests = [rest for rest in range(modulus) if chance.random() < 0.5]
        scripts = [some_script(chance, accounts, moduli, ahead, deep - 1) for _ in range(2)]
        return (word, some_formula(chance, accounts, moduli, 2), modulus, rests, scripts[0], scripts[1])
    one, other = chance.sample(accounts, 2)
    return (word, one, other) if word == "swap" else (word, one, other, some_formula(chance, accounts, moduli, 2))


def some_script(chance, accounts, moduli, ahead, deep):
    return [some_deed(chance, accounts, moduli, ahead, deep) for _ in range(chance.randint(0, 3))]


def some_house(chance, moduli, most=4):
    """The tuple (accounts, scripts) of a house with some accounts and scripts."""
    accounts = chance.sample(["cash", "day", "stock", "a", "zz"], chance.randint(1, most))
    scripts = []
    for name in ["pay", "cash", "night"][:chance.randint(0, 3)]:
        scripts.append((name, some_script(chance, accounts, moduli, [other for other, _ in scripts], 2)))
    return accounts, scripts


def cases(seed, many, lots_of_moduli, most=4):
    """Made-up tuples (chance, accounts, scripts, script), the same in each run of the tests."""
    chance = random.Random(seed)
    for _ in range(many):
        moduli = chance.choice(lots_of_moduli)
        accounts, scripts = some_house(chance, moduli, most)
        ahead = [name for name, _ in scripts]
        yield chance, accounts, scripts, some_script(chance, accounts, moduli, ahead, 3)


def some_form(chance, moduli, most):
    """A form of a map with these moduli."""
    many = len(moduli)
    pieces = []
    for _ in all_rests(moduli):
        matrix = [[chance.randint(-most, most) for _ in range(many)] for _ in range(many)]
        pieces.append((matrix, [chance.randint(-most, most) for _ in range(many)]))
    return list(moduli), pieces
