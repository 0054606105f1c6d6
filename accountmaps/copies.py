"""Copies that share no list with what they were made of."""


def copied(thing):
    """The thing with a new list in each place where a list stands."""
    if isinstance(thing, list):
        return [copied(part) for part in thing]
    if isinstance(thing, tuple):
        return tuple([copied(part) for part in thing])
    return thing
