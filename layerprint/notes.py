"""Texts: bodies written as rows of signs, layer by layer, and read again."""

from layerprint.bodies import SIDE, cells, layer_count, slice_at
from layerprint.errors import BadText

BETWEEN = "-"
# The rows of a layer, and the one between it and the next layer.
LAYER_ROWS = 5
# Four layers, and no row behind the last one.
MOST_ROWS = 19


def written(body):
    """Tell the text of a body."""
    many = layer_count(cells(body))
    rows = []
    for z in range(many):
        if z > 0:
            rows.append(BETWEEN)
        rows.extend(slice_at(body, z))
    return "\n".join(rows)


def read(text):
    """Tell the body of the cells that the text has."""
    if text == "":
        return ("cells", ())
    rows = text.split("\n")
    _check_rows(rows)
    found = [
        (x, at % LAYER_ROWS, at // LAYER_ROWS)
        for at, row in enumerate(rows)
        for x, sign in enumerate(row)
        if sign == "#"
    ]
    return ("cells", tuple(sorted(found)))


def _check_rows(rows):
    """Refuse rows that are no body's text, with the number of the first one that can't stand there."""
    for at, row in enumerate(rows):
        if not _can_stand(at, row):
            raise BadText(at)
    if len(rows) % LAYER_ROWS != SIDE:
        raise BadText(len(rows))
    if not any("#" in row for row in rows[-SIDE:]):
        raise BadText(len(rows) - 1)


def _can_stand(at, row):
    """Tell if the row may stand at this number of a text."""
    if at >= MOST_ROWS:
        return False
    if at % LAYER_ROWS == SIDE:
        return row == BETWEEN
    return len(row) == SIDE and all(sign in "#." for sign in row)
