"""Scripts that are made for forms of maps."""


def script_for_pieces(names, moduli, pieces, index):
    """The script for pieces that are told apart by the rests of the accounts from an index on."""
    if index == len(names):
        return script_for_piece(names, pieces[0])
    many = len(pieces) // moduli[index]
    lots = [pieces[start:start + many] for start in range(0, len(pieces), many)]
    scripts = [script_for_pieces(names, moduli, lot, index + 1) for lot in lots]
    return chosen_by_halves(names[index], moduli[index], 0, scripts)


def chosen_by_halves(name, modulus, first, scripts):
    """The script that does that of some scripts, for the rests from a first one on, that the account's rest tells.

    It asks in which half of them the rest is, so that it never is deep.
    """
    if len(scripts) == 1:
        return scripts[0]
    half = len(scripts) // 2
    lower = chosen_by_halves(name, modulus, first, scripts[:half])
    upper = chosen_by_halves(name, modulus, first + half, scripts[half:])
    if lower == upper:
        return lower
    return [("when", ("account", name), modulus, list(range(first, first + half)), lower, upper)]


def script_for_piece(names, piece):
    """The script that does what a piece says in all states.

    There is no account to spare. But any matrix becomes, by steps that take rows off one another and exchange
    them, one with noughts below its diagonal; that one can be done account by account, as none is asked again
    once it is changed; and behind it the steps are taken back, the last one first.
    """
    matrix, amounts = piece
    rows, steps = led_to_triangle(matrix)
    deeds = triangle_deeds(names, rows)
    for place, other, often in reversed(list(steps)):
        deeds.append(("swap", names[place], names[other]))
        deeds.extend(put_deeds(names[place], often, names[other]))
    return deeds + [("put", name, ("number", amount)) for name, amount in zip(names, amounts) if amount != 0]


def led_to_triangle(matrix):
    """The tuple (rows, steps) of a matrix with noughts below its diagonal and the steps that led to it.

    A step (place, other, often) takes the other row so often off the one at a place, and exchanges both.
    """
    rows = list(matrix)
    steps = []
    for place in range(len(rows)):
        for other in range(place + 1, len(rows)):
            while rows[other][place] != 0:
                often = rows[place][place] // rows[other][place]
                less = [one - often * two for one, two in zip(rows[place], rows[other])]
                rows[place], rows[other] = rows[other], less
                steps.append((place, other, often))
    return rows, steps


def triangle_deeds(names, rows):
    """The deeds that do a matrix with noughts below its diagonal."""
    deeds = []
    for place, row in enumerate(rows):
        if row[place] != 1:
            deeds.append(("set", names[place], ("times", row[place], ("account", names[place]))))
        for other in range(place + 1, len(rows)):
            deeds.extend(put_deeds(names[place], row[other], names[other]))
    return deeds


def put_deeds(name, often, other):
    """The deeds that put another account so often to an account."""
    return [("put", name, ("times", often, ("account", other)))] if often != 0 else []
