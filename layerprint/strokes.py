"""Strokes: the runs of a layer, and the orders to draw them in with the least empty way."""

from layerprint.bodies import LAST, SIDE, cells, is_number, slice_at
from layerprint.errors import BadPlace

FORWARD = 0
BACK = 1


def strokes(body, z):
    """Tell the runs of cells of a layer along x, rising: tuples (y, first, last)."""
    rows = slice_at(body, z)
    return [(y, first, last) for y in range(SIDE) for first, last in _runs(rows[y])]


def best_order(body, z, place):
    """Tell the least empty way of all orders of a layer, and the first order that has it."""
    runs = strokes(body, z)
    _check_place(place)
    way, orders = _best_orders([runs], place)
    return (way, orders[0])


def printed(body, place):
    """Tell the least empty way of all layers together, and the first orders that have it."""
    held = cells(body)
    _check_place(place)
    highest = max([cell[2] for cell in held], default=-1)
    layers = [strokes(body, z) for z in range(highest + 1)]
    return _best_orders(layers, place)


def _check_place(place):
    """Refuse what is no place of the head."""
    if len(place) != 2 or not all(is_number(part, 0, LAST) for part in place):
        raise BadPlace("a place is two numbers from 0 to 3")


def _runs(row):
    """Tell the first and the last place of each run in a row of signs."""
    told = []
    for x in range(len(row)):
        if row[x] == "#":
            first = x
            if x > 0 and row[x - 1] == "#":
                first, _ = told.pop()
            told.append((first, x))
    return told


def _best_orders(layers, place):
    """Tell the least empty way through the strokes of all layers, and the first orders that have it."""
    way, drawn = _best_rest(layers, 0, (), place, {})
    orders = []
    start = 0
    for runs in layers:
        orders.append(list(drawn[start:start + len(runs)]))
        start += len(runs)
    return (way, orders)


def _best_rest(layers, at, done, place, known):
    """Tell the least empty way through what is left, and the first row of strokes that has it.

    Left are the strokes of the layer at this number that aren't done, and the layers above it.
    """
    if at == len(layers):
        return (0, ())
    if len(done) == len(layers[at]):
        return _best_rest(layers, at + 1, (), place, known)
    # Where the head is and what is left tell all: how it came to be so makes no difference.
    key = (at, done, place)
    if key not in known:
        known[key] = min([
            _with_stroke(layers, at, done, place, known, (number, way))
            for number in range(len(layers[at]))
            for way in (FORWARD, BACK)
            if number not in done
        ])
    return known[key]


def _with_stroke(layers, at, done, place, known, stroke):
    """Tell the empty way and the row of strokes that begins with this one and goes on best."""
    number, way = stroke
    start, end = _ends(layers[at][number], way)
    rest_way, rest = _best_rest(layers, at, tuple(sorted(done + (number,))), end, known)
    return (_steps(place, start) + rest_way, (stroke,) + rest)


def _ends(run, way):
    """Tell the places at which a stroke of the run, drawn this way, begins and ends."""
    y, first, last = run
    if way == FORWARD:
        return ((first, y), (last, y))
    return ((last, y), (first, y))


def _steps(place, other):
    """Tell the steps along x and y from one place to the other."""
    return abs(place[0] - other[0]) + abs(place[1] - other[1])
