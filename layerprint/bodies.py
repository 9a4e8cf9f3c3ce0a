"""Bodies: which tuples are bodies, and which cells they have."""

from layerprint.errors import NoBody, NoLayer, Outside

SIDE = 4
LAST = 3
MOST_BODIES = 20
EDGES = ("x", "y", "z")
JOINS = ("with", "common", "less")


def is_body(body):
    """Tell if the tuple is a body, whether it leaves the room or not."""
    # No recursion: what is no body may be nested deeper than calls can be.
    waiting = [body]
    many = 0
    while waiting:
        one = waiting.pop()
        many += 1
        if many > MOST_BODIES or not _is_formed(one):
            return False
        waiting.extend(_places_within(one))
    return True


def cells(body):
    """Tell the cells of a body, rising."""
    if not is_body(body):
        raise NoBody("the tuple is no body")
    return _held(body)


def slice_at(body, z):
    """Tell the four rows of a layer, a text for each y."""
    held = cells(body)
    check_layer(z)
    return tuple(_row(held, y, z) for y in range(SIDE))


def check_layer(z):
    """Refuse what is no number of a layer."""
    if not is_number(z, 0, LAST):
        raise NoLayer("a layer is a number from 0 to 3")


def is_number(value, low, high):
    """Tell if the value is a number from low to high."""
    # Python counts True and False among the integers, the document does not.
    return isinstance(value, int) and not isinstance(value, bool) and low <= value <= high


def is_rising(values):
    """Tell if each of the values is greater than the one before."""
    return all(values[k - 1] < values[k] for k in range(1, len(values)))


def layer_count(held):
    """Tell how many layers cells have, from layer 0 up to the highest one."""
    return max([z + 1 for _, _, z in held], default=0)


def quarter(edge, held):
    """Tell the cells, rising, that these come to be by a quarter around the edge."""
    if edge == "x":
        return sorted([(x, LAST - z, y) for x, y, z in held])
    if edge == "y":
        return sorted([(z, y, LAST - x) for x, y, z in held])
    return sorted([(LAST - y, x, z) for x, y, z in held])


def shifted(far, held):
    """Tell the cells, in their order, with far added to each."""
    far_x, far_y, far_z = far
    return [(x + far_x, y + far_y, z + far_z) for x, y, z in held]


def _is_formed(body):
    """Tell if the tuple is written as a kind of body is, but for the bodies within."""
    if not isinstance(body, tuple) or len(body) not in (2, 3):
        return False
    word = body[0]
    if len(body) == 2:
        return word == "cells" and _are_rising_cells(body[1])
    if word == "block":
        return _is_triple(body[1], 0, LAST) and _is_triple(body[2], 1, SIDE)
    if word == "moved":
        return _is_triple(body[1], -LAST, LAST)
    if word == "turned":
        return body[1] in EDGES
    return word in JOINS


def _places_within(body):
    """Tell what stands in the places of bodies within."""
    word = body[0]
    if word in JOINS:
        return [body[1], body[2]]
    if word in ("moved", "turned"):
        return [body[2]]
    return []


def _is_triple(value, low, high):
    """Tell if the value is a tuple of three numbers from low to high."""
    if not isinstance(value, tuple) or len(value) != 3:
        return False
    return all(is_number(part, low, high) for part in value)


def _are_rising_cells(value):
    """Tell if the value is a tuple of cells, rising, each once."""
    if not isinstance(value, tuple) or not all(_is_triple(part, 0, LAST) for part in value):
        return False
    return is_rising(value)


def _held(body):
    """Tell the cells of a body, rising; refuse it if it or a body within leaves the room."""
    word = body[0]
    if word == "block":
        held = _block_cells(body[1], body[2])
    elif word == "cells":
        held = list(body[1])
    elif word == "moved":
        held = shifted(body[1], _held(body[2]))
    elif word == "turned":
        held = quarter(body[1], _held(body[2]))
    else:
        held = _joined(word, _held(body[1]), _held(body[2]))
    if not all(_is_triple(cell, 0, LAST) for cell in held):
        raise Outside("the body, or a body within, leaves the room")
    return held


def _block_cells(corner, size):
    """Tell the cells of a block, rising."""
    x, y, z = corner
    along_x, along_y, along_z = size
    return [
        (x + i, y + j, z + k)
        for i in range(along_x)
        for j in range(along_y)
        for k in range(along_z)
    ]


def _joined(word, first, second):
    """Tell the cells of two bodies as the word joins them, rising."""
    if word == "with":
        return sorted(set(first + second))
    if word == "common":
        return [cell for cell in first if cell in second]
    return [cell for cell in first if cell not in second]


def _row(held, y, z):
    """Tell the signs of a row of a slice."""
    return "".join("#" if (x, y, z) in held else "." for x in range(SIDE))
