"""Frames of cells: what an integer is kept as, and scripts with all that is kept put into them."""

from accountmaps.copies import copied
from accountmaps.errors import InvalidCell, InvalidState
from accountmaps.words import changed_in

# By the number of bits: how many integers a cell keeps.
WHOLES = (1, 2, 4, 8, 16)


def is_cell(cell):
    """Whether a tuple is a cell."""
    return len(cell) == 2 and cell[0] in ("u", "s") and 1 <= cell[1] < len(WHOLES)


def check_cells(frame):
    """Refuse the first cell of a frame that is none."""
    for cell in frame:
        if cell is not None and not is_cell(cell):
            raise InvalidCell(copied(cell))


def check_frame(frame, many):
    """Refuse a cell that is none, and a frame of another length than so many accounts."""
    check_cells(frame)
    if len(frame) != many:
        raise InvalidState(copied(frame))


def least_kept(cell):
    """The least integer that a cell keeps."""
    word, bits = cell
    return 0 if word == "u" else -(WHOLES[bits] // 2)


def span_of_cell(cell):
    """The tuple of the least and the greatest integer that a cell keeps, None where each is kept."""
    if cell is None:
        return None
    low = least_kept(cell)
    return low, low + WHOLES[cell[1]] - 1


def kept_formula(cell, name):
    """The formula of what a cell keeps of an account."""
    least, whole, one = least_kept(cell), WHOLES[cell[1]], ("account", name)
    if least == 0:
        return ("rest", one, whole)
    # All integers that a cell keeps are the least one and a rest.
    return ("plus", ("number", least), ("rest", ("less", one, ("number", least)), whole))


def keeping(cells, names):
    """The deeds by which some accounts are kept in their cells, told by names."""
    return [("set", name, kept_formula(cells[name], name)) for name in names if cells[name] is not None]


def kept_step_by_step(cells, script):
    """A script that is laid out, with all accounts kept behind each deed that changes them."""
    found = []
    for deed in script:
        word = deed[0]
        if word == "times":
            found.append(deed[:2] + (kept_step_by_step(cells, deed[2]),))
        elif word == "when":
            found.append(deed[:4] + (kept_step_by_step(cells, deed[4]), kept_step_by_step(cells, deed[5])))
        else:
            found.extend([deed] + keeping(cells, changed_in(deed)))
    return found


def least_cell(low, high):
    """The least cell that keeps two integers and all between them, None if none does."""
    for bits in range(1, len(WHOLES)):
        for word in ("u", "s"):
            least, greatest = span_of_cell((word, bits))
            if least <= low and high <= greatest:
                return word, bits
    return None
