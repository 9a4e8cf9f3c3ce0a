"""Bodies laid at the corner of the room, and turned about."""

from layerprint.bodies import EDGES, cells, quarter, shifted


def laid(body):
    """Tell the cells of a body, rising, moved to the corner."""
    return _at_corner(cells(body))


def turnings(body):
    """Tell the unlike turnings of a body, each with the first word that gives it."""
    start = laid(body)
    told = [("", start)]
    seen = set()
    seen.add(tuple(start))
    at = 0
    # Laid cells turn alike wherever the body lay. So longer words are sought only behind the
    # first word of a turning, and they come out in their order, the shortest first.
    while at < len(told):
        word, held = told[at]
        for edge in EDGES:
            found = _at_corner(quarter(edge, held))
            if tuple(found) not in seen:
                seen.add(tuple(found))
                told.append((word + edge, found))
        at += 1
    return told


def alike(one, other):
    """Tell the first word by which the one body is laid as the other, or None."""
    # Both are asked before they are compared: the first body is refused ahead of the other.
    found = turnings(one)
    sought = laid(other)
    for word, held in found:
        if held == sought:
            return word
    return None


def _at_corner(held):
    """Tell the cells, in their order, moved so that the least of each number is 0."""
    if not held:
        return []
    least_x = min([cell[0] for cell in held])
    least_y = min([cell[1] for cell in held])
    least_z = min([cell[2] for cell in held])
    return shifted((-least_x, -least_y, -least_z), held)
