"""Tables of pieces, one for each tuple of rests by some moduli, in ascending order of these."""

from math import lcm


def product_of(numbers):
    """The product of some integers."""
    found = 1
    for number in numbers:
        found = found * number
    return found


def common_multiple(numbers):
    """The least common multiple of some integers of at least 1."""
    found = 1
    for number in numbers:
        found = lcm(found, number)
    return found


def common_moduli(lots):
    """For each account the least common multiple of its moduli in one or more lots of moduli."""
    found = lots[0]
    for moduli in lots[1:]:
        found = [lcm(one, other) for one, other in zip(found, moduli)]
    return tuple(found)


def all_rests(moduli):
    """All tuples of rests by some moduli, ascending."""
    found = [()]
    for modulus in moduli:
        found = [rests + (rest,) for rests in found for rest in range(modulus)]
    return found


def place_of(moduli, state):
    """The place, among all tuples of rests by some moduli, of the rests of a state."""
    place = 0
    for modulus, amount in zip(moduli, state):
        place = place * modulus + amount % modulus
    return place


def rests_of(state, modulus):
    """The rests of all amounts of a state by one modulus, as a tuple."""
    return tuple([amount % modulus for amount in state])


def spread(moduli, pieces, finer):
    """The pieces for the rests by finer moduli, each a multiple of the one before."""
    if tuple(moduli) == tuple(finer):
        return pieces
    places = [0]
    for modulus, fine in zip(moduli, finer):
        places = [place * modulus + rest % modulus for place in places for rest in range(fine)]
    return [pieces[place] for place in places]


def prime_factors(number):
    """The prime factors of an integer of at least 1, ascending, each as often as it divides it."""
    found = []
    factor = 2
    while factor * factor <= number:
        while number % factor == 0:
            found.append(factor)
            number = number // factor
        factor += 1
    return found + [number] if number > 1 else found


def comes_again(pieces, block, step):
    """Whether within each block the pieces come again behind so many steps."""
    starts = range(0, len(pieces), block)
    return all([pieces[start + step:start + block] == pieces[start:start + block - step] for start in starts])


def least_way(moduli, pieces):
    """The tuple (moduli, pieces) with each modulus as small as can be."""
    least = ()
    inner = 1
    # A modulus can be divided by a prime or not, whatever has become of the other moduli:
    # so each of its primes is tried once, and the order does not matter.
    for place in reversed(range(len(moduli))):
        modulus = moduli[place]
        for prime in prime_factors(moduli[place]):
            block = inner * modulus
            step = block // prime
            if comes_again(pieces, block, step):
                pieces = [piece for start in range(0, len(pieces), block) for piece in pieces[start:start + step]]
                modulus = modulus // prime
        least = (modulus,) + least
        inner = inner * modulus
    return least, pieces
