"""Strokes: the runs of a layer, and the orders to draw them in with the least empty way."""

from layerprint.bodies import LAST, SIDE, cells, is_number, layer_count, slice_at
from layerprint.errors import BadPlace

FORWARD = 0
BACK = 1


def strokes(body, z):
    """Tell the runs of cells of a layer along x, rising: tuples (y, first, last)."""
    rows = slice_at(body, z)
    return [(y, first, last) for y in range(SIDE) for first, last in _runs(rows[y])]


def best_order(body, z, place):
    """Tell the least empty way of all orders of a layer, and the first order that has it."""
    runs = strokes(body, z)
    check_place(place)
    way, orders = _best_orders([runs], place)
    return (way, orders[0])


def printed(body, place):
    """Tell the least empty way of all layers together, and the first orders that have it."""
    held = cells(body)
    check_place(place)
    layers = [strokes(body, z) for z in range(layer_count(held))]
    return _best_orders(layers, place)


def check_place(place):
    """Refuse what is no place of the head."""
    if not is_place(place):
        raise BadPlace("a place is two numbers from 0 to 3")


def is_place(place):
    """Tell if the head can be there."""
    return len(place) == 2 and all(is_number(part, 0, LAST) for part in place)


def drawn_next(runs, done, place):
    """Tell of each stroke that isn't done yet what drawing it next makes of it, either way about.

    Told are tuples: the stroke, the steps to its beginning, what is done then, where the head is then.
    """
    told = []
    for number in range(len(runs)):
        for way in (FORWARD, BACK):
            if number not in done:
                start, end = _ends(runs[number], way)
                told.append(((number, way), _steps(place, start), tuple(sorted(done + (number,))), end))
    return told


def _runs(row):
    """Tell the first and the last place of each run in a row of signs."""
    told = []
    for x in range(len(row)):
        if row[x] == "#":
            first = x
            if x > 0 and row[x - 1] == "#":
                first, _ = told.pop()
            told.append((first, x))
    return told


def _best_orders(layers, place):
    """Tell the least empty way through the strokes of all layers, and the first orders that have it."""
    way, drawn = _best_rest(layers, 0, (), place, {})
    orders = []
    start = 0
    for runs in layers:
        orders.append(list(drawn[start:start + len(runs)]))
        start += len(runs)
    return (way, orders)


def _best_rest(layers, at, done, place, known):
    """Tell the least empty way through what is left, and the first row of strokes that has it.

    Left are the strokes of the layer at this number that aren't done, and the layers above it.
    """
    if at == len(layers):
        return (0, ())
    if len(done) == len(layers[at]):
        return _best_rest(layers, at + 1, (), place, known)
    # Where the head is and what is left tell all: how it came to be so makes no difference.
    key = (at, done, place)
    if key not in known:
        tried = []
        for stroke, far, further, end in drawn_next(layers[at], done, place):
            way, rest = _best_rest(layers, at, further, end, known)
            tried.append((far + way, (stroke,) + rest))
        known[key] = min(tried)
    return known[key]


def _ends(run, way):
    """Tell the places at which a stroke of the run, drawn this way, begins and ends."""
    y, first, last = run
    if way == FORWARD:
        return ((first, y), (last, y))
    return ((last, y), (first, y))


def _steps(place, other):
    """Tell the steps along x and y from one place to the other."""
    return abs(place[0] - other[0]) + abs(place[1] - other[1])
