"""What the tests share: errors that are caught, a plain interpreter, and made-up houses and scripts.

The interpreter follows DOC.md word for word, one state at a time, and uses nothing of the program.
"""

import random


def error_of(call, *things, **named):
    """The tuple (class, value) of the error that a call raises; None if it raises none."""
    try:
        call(*things, **named)
    except ValueError as error:
        return type(error), error.value
    return None


def lists_within(thing):
    """All lists within a thing, itself too, one for each place."""
    found = [thing] if isinstance(thing, list) else []
    if isinstance(thing, (list, tuple)):
        for part in thing:
            found.extend(lists_within(part))
    return found


def are_apart(*things):
    """Whether no list stands in two places of some things."""
    places = [id(one) for thing in things for one in lists_within(thing)]
    return len(places) == len(set(places))


def spoil(thing):
    """Change every list within a thing."""
    for one in lists_within(thing):
        one.append("spoilt")


def refused(test, wrong, error, *calls):
    """Assert that all calls refuse what is wrong, with a class of errors and a copy of it with lists of its own."""
    for call in calls:
        kind, held = error_of(call)
        test.assertEqual((kind, held), (error, wrong))
        test.assertTrue(are_apart(held))
        test.assertFalse({id(one) for one in lists_within(held)} & {id(one) for one in lists_within(wrong)})


def plain_value(formula, amounts):
    word = formula[0]
    if word == "number":
        return formula[1]
    if word == "account":
        return amounts[formula[1]]
    if word == "plus":
        return plain_value(formula[1], amounts) + plain_value(formula[2], amounts)
    if word == "less":
        return plain_value(formula[1], amounts) - plain_value(formula[2], amounts)
    if word == "times":
        return formula[1] * plain_value(formula[2], amounts)
    value = plain_value(formula[1], amounts)
    while value < 0 or value >= formula[2]:
        value -= (value // formula[2]) * formula[2]
    return value


def plain_deed(scripts, deed, amounts):
    word = deed[0]
    if word == "set":
        amounts[deed[1]] = plain_value(deed[2], amounts)
    elif word == "put":
        amounts[deed[1]] += plain_value(deed[2], amounts)
    elif word == "move":
        moved = plain_value(deed[3], amounts)
        amounts[deed[1]] -= moved
        amounts[deed[2]] += moved
    elif word == "swap":
        amounts[deed[1]], amounts[deed[2]] = amounts[deed[2]], amounts[deed[1]]
    elif word == "do":
        plain_script(scripts, scripts[deed[1]], amounts)
    elif word == "times":
        for _ in range(deed[1]):
            plain_script(scripts, deed[2], amounts)
    elif plain_value(("rest", deed[1], deed[2]), amounts) in deed[3]:
        plain_script(scripts, deed[4], amounts)
    else:
        plain_script(scripts, deed[5], amounts)


def plain_script(scripts, script, amounts):
    for deed in script:
        plain_deed(scripts, deed, amounts)


def plain_run(accounts, scripts, script, state):
    """The state behind a script, the scripts of the house being a list of tuples."""
    amounts = dict(zip(accounts, state))
    plain_script(dict(scripts), script, amounts)
    return [amounts[name] for name in accounts]


def all_rests(moduli):
    found = [()]
    for modulus in moduli:
        found = [rests + (rest,) for rests in found for rest in range(modulus)]
    return found


def form_at(form, state):
    """The results of a form in a state."""
    moduli, pieces = form
    table = dict(zip(all_rests(moduli), pieces))
    matrix, amounts = table[tuple(one % modulus for one, modulus in zip(state, moduli))]
    return [sum(a * b for a, b in zip(row, state)) + amount for row, amount in zip(matrix, amounts)]


def has_shape(form, accounts, results):
    """Whether a form is of the kinds and numbers of things that it should be."""
    moduli, pieces = form
    tables = len(all_rests(moduli)) == len(pieces) and len(moduli) == accounts
    kinds = [isinstance(form, tuple), isinstance(moduli, list), isinstance(pieces, list)]
    for piece in pieces:
        matrix, amounts = piece
        kinds.extend([isinstance(piece, tuple), isinstance(matrix, list), isinstance(amounts, list)])
        kinds.append(len(matrix) == len(amounts) == results)
        kinds.extend(isinstance(row, list) and len(row) == accounts for row in matrix)
    return tables and all(kinds)


def is_least(form):
    """Whether none of a form's moduli could be less: each divisor of it would tell two pieces as one."""
    moduli, pieces = form
    table = dict(zip(all_rests(moduli), pieces))

    def turned(rests, place, by):
        return rests[:place] + ((rests[place] + by) % moduli[place],) + rests[place + 1:]

    for place, modulus in enumerate(moduli):
        for divisor in range(1, modulus):
            if modulus % divisor == 0:
                if all(table[rests] == table[turned(rests, place, divisor)] for rests in table):
                    return False
    return True


def states_for(chance, accounts, many, most):
    """Some states, those near nought among them."""
    near = [[chance.randint(-3, 3) for _ in range(accounts)] for _ in range(many)]
    far = [[chance.randint(-most, most) for _ in range(accounts)] for _ in range(many)]
    return [[0] * accounts] + near + far


def some_formula(chance, accounts, moduli, deep):
    word = chance.choice(["number", "account", "plus", "less", "times", "rest"])
    if deep == 0 or word == "account":
        return ("account", chance.choice(accounts))
    if word == "number":
        return ("number", chance.randint(-100, 100))
    one = some_formula(chance, accounts, moduli, deep - 1)
    if word == "times":
        return ("times", chance.randint(-4, 4), one)
    if word == "rest":
        return ("rest", one, chance.choice(moduli))
    return (word, one, some_formula(chance, accounts, moduli, deep - 1))


def some_deed(chance, accounts, moduli, ahead, deep):
    word = chance.choice(["set", "put", "move", "swap", "do", "times", "when"])
    if word in ("times", "when") and deep == 0 or word == "do" and not ahead:
        word = "put"
    if word in ("move", "swap") and len(accounts) == 1:
        word = "set"
    if word in ("set", "put"):
        return (word, chance.choice(accounts), some_formula(chance, accounts, moduli, 3))
    if word == "do":
        return (word, chance.choice(ahead))
    if word == "times":
        return (word, chance.randint(0, 3), some_script(chance, accounts, moduli, ahead, deep - 1))
    if word == "when":
        modulus = chance.choice(moduli)
        rests = [rest for rest in range(modulus) if chance.random() < 0.5]
        scripts = [some_script(chance, accounts, moduli, ahead, deep - 1) for _ in range(2)]
        return (word, some_formula(chance, accounts, moduli, 2), modulus, rests, scripts[0], scripts[1])
    one, other = chance.sample(accounts, 2)
    return (word, one, other) if word == "swap" else (word, one, other, some_formula(chance, accounts, moduli, 2))


def some_script(chance, accounts, moduli, ahead, deep):
    return [some_deed(chance, accounts, moduli, ahead, deep) for _ in range(chance.randint(0, 3))]


def some_house(chance, moduli, most=4):
    """The tuple (accounts, scripts) of a house with some accounts and scripts."""
    accounts = chance.sample(["cash", "day", "stock", "a", "zz"], chance.randint(1, most))
    scripts = []
    for name in ["pay", "cash", "night"][:chance.randint(0, 3)]:
        scripts.append((name, some_script(chance, accounts, moduli, [other for other, _ in scripts], 2)))
    return accounts, scripts


def cases(seed, many, lots_of_moduli, most=4):
    """Made-up tuples (chance, accounts, scripts, script), the same in each run of the tests."""
    chance = random.Random(seed)
    for _ in range(many):
        moduli = chance.choice(lots_of_moduli)
        accounts, scripts = some_house(chance, moduli, most)
        ahead = [name for name, _ in scripts]
        yield chance, accounts, scripts, some_script(chance, accounts, moduli, ahead, 3)


def some_form(chance, moduli, most):
    """A form of a map with these moduli."""
    many = len(moduli)
    pieces = []
    for _ in all_rests(moduli):
        matrix = [[chance.randint(-most, most) for _ in range(many)] for _ in range(many)]
        pieces.append((matrix, [chance.randint(-most, most) for _ in range(many)]))
    return list(moduli), pieces


def some_results(chance, moduli, results, most):
    """A form with these moduli and so many results."""
    pieces = []
    for _ in all_rests(moduli):
        matrix = [[chance.randint(-most, most) for _ in moduli] for _ in range(results)]
        pieces.append((matrix, [chance.randint(-most, most) for _ in range(results)]))
    return list(moduli), pieces


def some_calm_map(chance, moduli):
    """A form of a map of which much comes round: each account becomes another one, or its negative, or a number."""
    many = len(moduli)
    pieces = []
    for _ in all_rests(moduli):
        rows = []
        for _ in range(many):
            row = [0] * many
            row[chance.randrange(many)] = chance.choice([0, 1, 1, -1])
            rows.append(row)
        pieces.append((rows, [chance.choice([0, 0, 1, -1, 2]) for _ in range(many)]))
    return list(moduli), pieces


def told_wider(form, factors):
    """The same form, told with moduli that are so often as great."""
    moduli, pieces = form
    table = dict(zip(all_rests(moduli), pieces))
    wider = [modulus * factor for modulus, factor in zip(moduli, factors)]
    found = []
    for rests in all_rests(wider):
        matrix, amounts = table[tuple(rest % modulus for rest, modulus in zip(rests, moduli))]
        found.append(([list(row) for row in matrix], list(amounts)))
    return wider, found


def plain_least(form):
    """The least way of a form, found by trying all divisors of each modulus."""
    moduli, pieces = form
    table = dict(zip(all_rests(moduli), pieces))
    least = []
    for place, modulus in enumerate(moduli):
        for divisor in range(1, modulus + 1):
            if modulus % divisor == 0:
                moved = {rests: rests[:place] + ((rests[place] + divisor) % modulus,) + rests[place + 1:]
                         for rests in table}
                if all(table[rests] == table[moved[rests]] for rests in table):
                    least.append(divisor)
                    break
    return least, [table[rests] for rests in all_rests(least)]


def states_in_order(many, far):
    """All states, none of whose amounts is further from nought than so far, in the order of maps.py."""
    states = [[]]
    for _ in range(many):
        states = [state + [amount] for state in states for amount in range(-far, far + 1)]
    return sorted(states, key=lambda state: (max(abs(amount) for amount in state), state))


def small_moduli(chance, many, most):
    """Moduli that multiply to at most so much."""
    moduli, product = [1] * many, 1
    for place in chance.sample(range(many), many):
        moduli[place] = chance.randint(1, max(1, min(7, most // product)))
        product *= moduli[place]
    return moduli


def spoilt_forms(form):
    """Things that are no forms, made of a form that is one: each wrong in its numbers of things or its moduli."""
    moduli, pieces = form
    matrix, amounts = pieces[0]
    accounts = len(moduli)
    yield ([], [])
    yield ([], [([], [])])
    yield ([], pieces)
    yield (moduli,)
    yield (moduli, pieces, [])
    yield ()
    yield (moduli + [1], pieces)
    yield (moduli, [])
    yield (moduli, pieces + [pieces[0]])
    yield (moduli, pieces[:-1] + [(matrix, amounts + [1])])
    yield (moduli, pieces[:-1] + [(matrix + [[0] * accounts], amounts)])
    yield (moduli, pieces[:-1] + [(matrix + [[0] * accounts], amounts + [0])] if len(pieces) > 1 else [])
    yield (moduli, [(matrix[:-1], amounts)] + pieces[1:])
    yield (moduli, [([row + [0] for row in matrix], amounts)] + pieces[1:])
    yield (moduli, [(matrix[:-1] + [matrix[-1][1:]], amounts)] + pieces[1:])
    yield (moduli, [(matrix,)] + pieces[1:])
    yield (moduli, [()] + pieces[1:])
    yield (moduli, [(matrix, amounts, [])] + pieces[1:])
    yield (moduli, [([], []) for _ in pieces])
    yield (moduli[:-1] + [0], pieces)
    yield ([-modulus for modulus in moduli], pieces)
    yield (moduli[:-1] + [moduli[-1] * 2], pieces)


def weighted_sum(weights, state):
    return sum(weight * amount for weight, amount in zip(weights, state))


def telling_states(form):
    """States that tell all of a form: of each piece one with its rests, and those with one account a round on."""
    moduli, _ = form
    found = []
    for rests in all_rests(moduli):
        found.append(list(rests))
        for place, modulus in enumerate(moduli):
            found.append([rest + modulus * (other == place) for other, rest in enumerate(rests)])
    return found


def is_in_steps(rows):
    """Whether rows are a least basis in steps."""
    places = [[place for place, part in enumerate(row) if part != 0][:1] for row in rows]
    if [] in places or places != sorted(places) or len({place[0] for place in places}) < len(places):
        return False
    for at, (place,) in enumerate(places):
        if rows[at][place] <= 0 or any(not 0 <= rows[before][place] < rows[at][place] for before in range(at)):
            return False
    return True


def is_sum_of(rows, row):
    """Whether a row is a sum of multiples of a basis in steps."""
    row = list(row)
    for leader in rows:
        place = [place for place, part in enumerate(leader) if part != 0][0]
        often = row[place] // leader[place]
        row = [part - often * other for part, other in zip(row, leader)]
    return not any(row)


def some_keeping_map(chance, moduli, weights, most):
    """A form of a map that never changes the sums by some weights, at most two lists of them."""
    many = len(moduli)
    pieces = []
    lots = [row for row in states_in_order(many, most) if not any(weighted_sum(one, row) for one in weights)]
    for _ in all_rests(moduli):
        matrix = [[1 if row == column else 0 for column in range(many)] for row in range(many)]
        for _ in range(chance.choice([0, 0, 1])):
            moved, by = chance.choice(lots), [chance.randint(-2, 2) for _ in range(many)]
            matrix = [[part + moved[row] * by[column] for column, part in enumerate(line)]
                      for row, line in enumerate(matrix)]
        pieces.append((matrix, list(chance.choice(lots))))
    return list(moduli), pieces
