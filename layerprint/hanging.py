"""Hanging: which cells are carried, and how far the others are from what carries them."""

from layerprint.bodies import cells, is_number
from layerprint.errors import BadReach, NoProp

FARTHEST = 2


def hanging(body, props, reach):
    """Tell the cells that hang with these props, each with its way, rising."""
    held = cells(body)
    _check_props(held, props)
    check_reach(reach)
    return hanging_cells(held, props, reach)


def filled(body, props):
    """Tell how many cells all props fill."""
    held = cells(body)
    _check_props(held, props)
    return fill(held, props)


def check_reach(reach):
    """Refuse what is no reach."""
    if not is_number(reach, 0, FARTHEST):
        raise BadReach("a reach is a number from 0 to 2")


def hanging_cells(held, props, reach):
    """Tell, of rising cells, those that hang with their ways."""
    ways = _ways(held, props)
    return [(cell, ways[cell]) for cell in held if ways[cell] is None or ways[cell] > reach]


def fill(held, props):
    """Tell how many cells these props fill, of a body with these cells."""
    return sum([_fill_under(held, cell) for cell in props])


def beside(cell):
    """Tell the four places beside the cell in its layer, in the room or not."""
    x, y, z = cell
    return [(x - 1, y, z), (x, y - 1, z), (x, y + 1, z), (x + 1, y, z)]


def _check_props(held, props):
    """Refuse props of which one can't stand there."""
    for at, cell in enumerate(props):
        if cell not in held:
            raise NoProp("a prop stands under no cell of the body")
        if _is_carried(held, cell):
            raise NoProp("a prop stands under a cell that is carried without it")
        if cell in props[:at]:
            raise NoProp("a prop is told twice")


def _is_carried(held, cell):
    """Tell if the cell is carried without a prop."""
    x, y, z = cell
    return z == 0 or (x, y, z - 1) in held


def _fill_under(held, cell):
    """Tell how many cells are free under the cell, down to the ground or the next one of the body."""
    x, y, z = cell
    many = 0
    while many < z and (x, y, z - many - 1) not in held:
        many += 1
    return many


def _ways(held, props):
    """Tell the way of each cell: a number of steps, or None."""
    ways = {cell: None for cell in held}
    reached = [cell for cell in held if cell in props or _is_carried(held, cell)]
    for cell in reached:
        ways[cell] = 0
    at = 0
    # What is reached first is gone on from first, so each cell is reached by fewest steps.
    while at < len(reached):
        cell = reached[at]
        for other in beside(cell):
            if other in ways and ways[other] is None:
                ways[other] = ways[cell] + 1
                reached.append(other)
        at += 1
    return ways
