"""Bodies to ask about, drawn by a fixed seed, and what the tests of several files share."""

import random
from itertools import product

from layerprint.errors import BadPlace, BadReach, BadText, NoBody, NoLayer, NoProp, Outside, PrintError

ROOM = sorted(product(range(4), repeat=3))
EMPTY = ("cells", ())
FULL = ("block", (0, 0, 0), (4, 4, 4))
DOT = ("block", (0, 0, 0), (1, 1, 1))
NO_BODY = ("no",)
OUTSIDE = ("moved", (0, 0, -1), DOT)
REFUSALS = (NoBody, Outside, NoLayer, NoProp, BadReach, BadPlace, BadText)
FAR_NUMBERS = (-1, -2, 4, 5, 17, 10 ** 30, -(10 ** 30))
BAD_REACHES = (-1, 3, 4, -2, 100, 10 ** 30, -(10 ** 30))
PLACES = list(product(range(4), repeat=2))
BAD_PLACES = [place for far in FAR_NUMBERS for place in ((far, 0), (far, 3), (0, far), (3, far), (far, far))]


def as_body(listed):
    return ("cells", tuple(sorted(listed)))


def drawn_layer(z, *rows):
    """The cells of a layer that is drawn as a slice, a row for each y."""
    return [(x, y, z) for y, row in enumerate(rows) for x, sign in enumerate(row) if sign == "#"]


def some_cells(rng):
    """Cells, each layer filled as densely as it happens, some not at all."""
    dense = [rng.choice((0, 0.3, 0.6, 0.9, 1)) for _ in range(4)]
    return [cell for cell in ROOM if rng.random() < dense[cell[2]]]


def many_cells(seed, many):
    rng = random.Random(seed)
    return [some_cells(rng) for _ in range(many)]


def assert_refused(case, wanted, call, *handed):
    """The call is refused by the wanted class, a PrintError, and by none of the others."""
    with case.assertRaises(PrintError) as caught:
        call(*handed)
    kinds = [kind for kind in REFUSALS if isinstance(caught.exception, kind)]
    case.assertEqual(kinds, [wanted])
    case.assertIsInstance(caught.exception, ValueError)
