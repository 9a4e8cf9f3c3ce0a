"""Every function of the interface that is handed a body, as calls with a body alone."""

from itertools import product

from layerprint.bodies import cells, is_body, slice_at
from layerprint.hanging import filled, hanging
from layerprint.notes import written
from layerprint.props import fewest, shows
from layerprint.strokes import best_order, printed, strokes
from layerprint.tables import holds, table
from layerprint.turning import alike, laid, turnings
from layerprint.upright import best
from samples import DOT

NO_PAPER = ((0, 0, 0), [])

# A call of each, for all that refuse a body.
HANDED = (
    ("cells", cells),
    ("slice_at", lambda body: slice_at(body, 0)),
    ("laid", laid),
    ("turnings", turnings),
    ("alike one", lambda body: alike(body, DOT)),
    ("alike other", lambda body: alike(DOT, body)),
    ("hanging", lambda body: hanging(body, [], 0)),
    ("filled", lambda body: filled(body, [])),
    ("fewest", lambda body: fewest(body, 0)),
    ("shows", lambda body: shows(body, 0, 0, 0, NO_PAPER)),
    ("strokes", lambda body: strokes(body, 0)),
    ("best_order", lambda body: best_order(body, 0, (0, 0))),
    ("printed", lambda body: printed(body, (0, 0))),
    ("table", lambda body: table(body, 0, (0, 0))),
    ("holds", lambda body: holds(body, 0, (0, 0), 0, [])),
    ("best", lambda body: best(body, 0)),
    ("written", written),
)

# The same with all else handed in refused, too: a refused body goes ahead of it.
HANDED_WRONG = (
    ("slice_at", lambda body: slice_at(body, 4)),
    ("alike", lambda body: alike(body, ("no",))),
    ("alike, far out", lambda body: alike(body, ("moved", (0, 0, -1), DOT))),
    ("hanging", lambda body: hanging(body, [(9, 9, 9)], 3)),
    ("filled", lambda body: filled(body, [(9, 9, 9)])),
    ("fewest", lambda body: fewest(body, 3)),
    ("shows", lambda body: shows(body, -1, 4, 0, NO_PAPER)),
    ("strokes", lambda body: strokes(body, -1)),
    ("best_order", lambda body: best_order(body, 4, (4, 4))),
    ("printed", lambda body: printed(body, (-1, 0))),
    ("table", lambda body: table(body, -1, (0, 4))),
    ("holds", lambda body: holds(body, 4, (-1, -1), 0, [])),
    ("best", lambda body: best(body, -1)),
)


def hanging_with_told(body, reach):
    props = [cell for _, under, _ in fewest(body, reach) for cell in under]
    return (hanging(body, [], reach), hanging(body, props, 0), filled(body, props), filled(body, []))


def shown_of_told(body, reach):
    return [
        [shows(body, reach, z, many, paper) for z in range(4) for many in range(len(props) + 1)]
        for _, props, paper in fewest(body, reach)
    ]


def held_of_told(body, z, place):
    way, _ = best_order(body, z, place)
    told = table(body, z, place)
    return [holds(body, z, place, much, told) for much in (0, way, way + 1)]


def every_call():
    """Calls with a body alone: each function of the interface, with several of all else it takes."""
    calls = [is_body, cells, laid, turnings, written, lambda body: alike(body, DOT), lambda body: alike(DOT, body)]
    for z in range(4):
        calls.append(lambda body, z=z: slice_at(body, z))
        calls.append(lambda body, z=z: strokes(body, z))
    for reach in range(3):
        calls.append(lambda body, reach=reach: fewest(body, reach))
        calls.append(lambda body, reach=reach: best(body, reach))
        calls.append(lambda body, reach=reach: hanging_with_told(body, reach))
        calls.append(lambda body, reach=reach: shown_of_told(body, reach))
    for place in ((0, 0), (2, 1)):
        calls.append(lambda body, place=place: printed(body, place))
    for z, place in product((0, 1, 3), ((0, 0), (3, 2))):
        calls.append(lambda body, z=z, place=place: best_order(body, z, place))
        calls.append(lambda body, z=z, place=place: table(body, z, place))
        calls.append(lambda body, z=z, place=place: held_of_told(body, z, place))
    return calls
