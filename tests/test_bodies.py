import random
import unittest
from itertools import product

import reference
from asked import HANDED, HANDED_WRONG
from layerprint.bodies import cells, is_body, slice_at
from layerprint.errors import NoBody, NoLayer, Outside
from layerprint.turning import alike

ROOM = sorted(product(range(4), repeat=3))
DOT = ("block", (0, 0, 0), (1, 1, 1))
EMPTY = ("cells", ())
BAR = ("block", (0, 0, 0), (3, 1, 1))
POST = ("block", (1, 0, 0), (1, 1, 3))
OUT_BLOCK = ("block", (3, 0, 0), (2, 1, 1))
OUT_MOVED = ("moved", (0, 0, -1), DOT)


def chain(many, inner=DOT):
    """A body of so many bodies, each within the one before."""
    body = inner
    for _ in range(many - 1):
        body = ("turned", "z", body)
    return body


def joined(many):
    """A body of so many bodies, an odd number, joined side by side."""
    body = DOT
    for _ in range((many - 1) // 2):
        body = ("with", body, DOT)
    return body


def spread(many):
    """A body of so many bodies, an odd number, as evenly spread as can be."""
    if many == 1:
        return DOT
    one = (many // 2 - 1) // 2 * 2 + 1
    return ("with", spread(one), spread(many - 1 - one))


def around(inner):
    """Bodies, by a word or two, that have this one in each of the places that a body has for others."""
    return {
        "with, the one": ("with", inner, DOT),
        "with, the other": ("with", DOT, inner),
        "common, the one": ("common", inner, EMPTY),
        "common, the other": ("common", EMPTY, inner),
        "less, the one": ("less", inner, ("block", (0, 0, 0), (4, 4, 4))),
        "less, the other": ("less", EMPTY, inner),
        "less, both": ("less", inner, inner),
        "moved": ("moved", (0, 0, 0), inner),
        "moved back along x": ("moved", (1, 0, 0), inner),
        "moved back along y": ("moved", (0, -1, 0), inner),
        "moved back along z": ("moved", (0, 0, -1), inner),
        "turned x": ("turned", "x", inner),
        "turned y": ("turned", "y", inner),
        "turned z": ("turned", "z", inner),
        "deep within": ("turned", "z", ("less", DOT, ("common", BAR, ("moved", (0, 0, 0), ("with", inner, DOT))))),
    }


def some_out():
    """Bodies that leave the room themselves, along each edge, in both directions, more or less far."""
    told = []
    for edge, far in product(range(3), (-3, -2, -1, 1, 2, 3)):
        one_step = tuple(far if k == edge else 0 for k in range(3))
        near = 0 if far < 0 else 3
        told.append(("moved", one_step, ("cells", ((near,) * 3,))))
        # Of two cells only one leaves.
        told.append(("moved", one_step, ("block", (0, 0, 0), tuple(4 if k == edge else 1 for k in range(3)))))
        if far > 0:
            corner = tuple(4 - far if k == edge else 1 for k in range(3))
            told.append(("block", corner, tuple(far + 1 if k == edge else 2 for k in range(3))))
    return told


NO_BODIES = {
    "nothing": (),
    "a word alone": ("block",),
    "cells without cells": ("cells",),
    "with alone": ("with",),
    "moved alone": ("moved",),
    "turned alone": ("turned",),
    "a text in a tuple": ("",),
    "numbers alone": (0, 0, 0),
    "a tuple of an empty one": ((),),
    "no word": (3, (0, 0, 0), (1, 1, 1)),
    "a tuple as its word": ((), (0, 0, 0), (1, 1, 1)),
    "a body as its word": (DOT, DOT),
    "a wrong word": ("blocks", (0, 0, 0), (1, 1, 1)),
    "a word in capitals": ("Block", (0, 0, 0), (1, 1, 1)),
    "an empty word": ("", DOT, DOT),
    "another word of joining": ("without", DOT, DOT),
    "another word, of two": ("cell", ()),
    "cells with three": ("cells", (), ()),
    "block of one part": ("block", (0, 0, 0)),
    "block of three parts": ("block", (0, 0, 0), (1, 1, 1), 0),
    "with of one": ("with", DOT),
    "common of one": ("common", DOT),
    "less of one": ("less", DOT),
    "with of three": ("with", DOT, DOT, DOT),
    "common of three": ("common", DOT, DOT, DOT),
    "less of three": ("less", DOT, DOT, DOT),
    "moved with an edge": ("moved", "x", DOT),
    "turned by a step": ("turned", (1, 0, 0), DOT),
    "moved without a body": ("moved", (0, 0, 0)),
    "moved with two": ("moved", (0, 0, 0), DOT, DOT),
    "turned without a body": ("turned", "x"),
    "turned with two": ("turned", "x", DOT, DOT),
    "moved, the other way round": ("moved", DOT, (0, 0, 0)),
    "turned, the other way round": ("turned", DOT, "x"),
    "corner with x -1": ("block", (-1, 0, 0), (1, 1, 1)),
    "corner with y -1": ("block", (0, -1, 0), (1, 1, 1)),
    "corner with z -1": ("block", (0, 0, -1), (1, 1, 1)),
    "corner with x 4": ("block", (4, 0, 0), (1, 1, 1)),
    "corner with y 4": ("block", (0, 4, 0), (1, 1, 1)),
    "corner with z 4": ("block", (0, 0, 4), (1, 1, 1)),
    "corner of two": ("block", (0, 0), (1, 1, 1)),
    "corner of four": ("block", (0, 0, 0, 0), (1, 1, 1)),
    "corner is a text": ("block", "000", (1, 1, 1)),
    "corner of texts": ("block", ("0", "0", "0"), (1, 1, 1)),
    "corner is a number": ("block", 0, (1, 1, 1)),
    "size with x 0": ("block", (0, 0, 0), (0, 1, 1)),
    "size with y 0": ("block", (0, 0, 0), (1, 0, 1)),
    "size with z 0": ("block", (0, 0, 0), (1, 1, 0)),
    "size with x 5": ("block", (0, 0, 0), (5, 1, 1)),
    "size with y 5": ("block", (0, 0, 0), (1, 5, 1)),
    "size with z 5": ("block", (0, 0, 0), (1, 1, 5)),
    "size with -1": ("block", (0, 0, 0), (-1, 1, 1)),
    "size of two": ("block", (0, 0, 0), (1, 1)),
    "size of four": ("block", (0, 0, 0), (1, 1, 1, 1)),
    "size is a number": ("block", (0, 0, 0), 1),
    "size is a text": ("block", (0, 0, 0), "111"),
    "cells is a cell": ("cells", (0, 0, 0)),
    "cells is a text": ("cells", ""),
    "cells is a number": ("cells", 0),
    "cells not rising in x": ("cells", ((1, 0, 0), (0, 0, 0))),
    "cells not rising in y": ("cells", ((0, 2, 0), (0, 1, 3))),
    "cells not rising in z": ("cells", ((0, 0, 0), (0, 0, 2), (0, 0, 1))),
    "cells rising by z first": ("cells", ((1, 0, 0), (0, 0, 1))),
    "a cell twice": ("cells", ((0, 0, 0), (0, 0, 0))),
    "a cell twice, at the end": ("cells", ((0, 0, 0), (1, 2, 3), (1, 2, 3))),
    "a cell with x 4": ("cells", ((4, 0, 0),)),
    "a cell with y 4": ("cells", ((0, 4, 0),)),
    "a cell with z 4": ("cells", ((0, 0, 0), (0, 0, 4))),
    "a cell with x -1": ("cells", ((-1, 0, 0), (0, 0, 0))),
    "a cell with y -1": ("cells", ((0, -1, 0),)),
    "a cell with z -1": ("cells", ((0, 0, -1),)),
    "a cell of two": ("cells", ((0, 0),)),
    "a cell of four": ("cells", ((0, 0, 0, 0),)),
    "a cell is a number": ("cells", (0,)),
    "a cell is a text": ("cells", ("000",)),
    "a body in cells": ("cells", (DOT,)),
    "far with x 4": ("moved", (4, 0, 0), EMPTY),
    "far with y 4": ("moved", (0, 4, 0), EMPTY),
    "far with z 4": ("moved", (0, 0, 4), EMPTY),
    "far with x -4": ("moved", (-4, 0, 0), EMPTY),
    "far with y -4": ("moved", (0, -4, 0), EMPTY),
    "far with z -4": ("moved", (0, 0, -4), EMPTY),
    "far of two": ("moved", (0, 0), DOT),
    "far of four": ("moved", (0, 0, 0, 0), DOT),
    "far is a number": ("moved", 0, DOT),
    "far is a text": ("moved", "x", DOT),
    "another edge": ("turned", "w", DOT),
    "an edge in capitals": ("turned", "X", DOT),
    "two edges": ("turned", "xy", DOT),
    "no edge": ("turned", "", DOT),
    "edge is a number": ("turned", 0, DOT),
    "edge is a tuple": ("turned", ("x",), DOT),
    "a cell as the other": ("less", DOT, (0, 0, 0)),
    "a cell moved": ("moved", (0, 0, 0), (0, 0, 0)),
    "a wrong word deep within": chain(5, ("with", DOT, ("turned", "x", ("bloc", (0, 0, 0), (1, 1, 1))))),
    "21 within one another": chain(21),
    "21 side by side": joined(21),
    "21 spread": spread(21),
    "21 in a chain above a spread": chain(3, spread(19)),
    "a number as a body of 20": chain(20, 0),
    "22 bodies": chain(22),
    "the same body 11 times": joined(23),
    "far too many": chain(30000),
    "a cell that is far too deep": ("cells", (chain(30000),)),
}

# What is no body is none in any place of another one either.
TAKEN = {"a number": 0, "another number": 7, "a text": "cells", "an empty text": "", "an empty tuple": ()}
NO_BODIES.update({
    f"{what}: {where}": body for what, inner in TAKEN.items() for where, body in around(inner).items()
})

OUTSIDE = {
    "block leaves along x": ("block", (3, 0, 0), (2, 1, 1)),
    "block leaves along y": ("block", (0, 3, 0), (1, 2, 1)),
    "block leaves along z": ("block", (0, 0, 3), (1, 1, 2)),
    "block leaves by far": ("block", (3, 3, 3), (4, 4, 4)),
    "move leaves at x 4": ("moved", (1, 0, 0), ("cells", ((3, 0, 0),))),
    "move leaves at y 4": ("moved", (0, 1, 0), ("cells", ((0, 3, 0),))),
    "move leaves at z 4": ("moved", (0, 0, 1), ("cells", ((0, 0, 3),))),
    "move leaves at x -1": ("moved", (-1, 0, 0), DOT),
    "move leaves at y -1": ("moved", (0, -1, 0), DOT),
    "move leaves at z -1": ("moved", (0, 0, -1), DOT),
    "one of several cells leaves": ("moved", (0, 1, 0), ("cells", ((0, 0, 0), (1, 3, 0), (2, 0, 0)))),
    "moved back": ("moved", (-1, 0, 0), ("moved", (1, 0, 0), ("cells", ((3, 0, 0),)))),
    "a block moved back": ("moved", (-1, 0, 0), OUT_BLOCK),
    "taken away": ("less", OUT_BLOCK, OUT_BLOCK),
    "not what is left": ("less", DOT, OUT_BLOCK),
    "nothing is left": ("less", EMPTY, OUT_MOVED),
    "not in common": ("common", DOT, OUT_BLOCK),
    "nothing in common": ("common", OUT_MOVED, EMPTY),
    "with, the one": ("with", OUT_BLOCK, DOT),
    "with, the other": ("with", DOT, OUT_MOVED),
    "turned back": chain(5, OUT_BLOCK),
    "turned": ("turned", "z", OUT_MOVED),
    "deep within": chain(18, ("less", DOT, OUT_BLOCK)),
}


def some_body(rng, many):
    """A body of at most so many bodies, which may leave the room by a move."""
    word = rng.choice(("block", "cells", "with", "common", "less", "moved", "turned"))
    if many < 3 or word in ("block", "cells"):
        if word == "block":
            corner = tuple(rng.randint(0, 3) for _ in range(3))
            return ("block", corner, tuple(rng.randint(1, 4 - n) for n in corner))
        return ("cells", tuple(sorted(rng.sample(ROOM, rng.randint(0, 20)))))
    if word == "moved":
        inner = some_body(rng, many - 1)
        return ("moved", tuple(rng.randint(-1, 1) for _ in range(3)), inner)
    if word == "turned":
        return ("turned", rng.choice("xyz"), some_body(rng, many - 1))
    return (word, some_body(rng, (many - 1) // 2), some_body(rng, (many - 1) // 2))


def leaves(body):
    """Whether a body, or one within, leaves the room."""
    within = {"with": body[1:], "common": body[1:], "less": body[1:], "moved": body[2:], "turned": body[2:]}
    if any(leaves(part) for part in within.get(body[0], ())):
        return True
    return any(n not in range(4) for cell in reference.held(body) for n in cell)


class Kinds(unittest.TestCase):
    def test_block(self):
        body = ("block", (1, 0, 2), (2, 3, 1))
        wanted = [(1, 0, 2), (1, 1, 2), (1, 2, 2), (2, 0, 2), (2, 1, 2), (2, 2, 2)]
        self.assertTrue(is_body(body))
        self.assertEqual(cells(body), wanted)

    def test_block_sizes_are_along_x_y_z(self):
        self.assertEqual(cells(BAR), [(0, 0, 0), (1, 0, 0), (2, 0, 0)])
        self.assertEqual(cells(("block", (0, 0, 0), (1, 3, 1))), [(0, 0, 0), (0, 1, 0), (0, 2, 0)])
        self.assertEqual(cells(POST), [(1, 0, 0), (1, 0, 1), (1, 0, 2)])

    def test_block_at_the_edges(self):
        self.assertEqual(cells(("block", (3, 3, 3), (1, 1, 1))), [(3, 3, 3)])
        self.assertEqual(cells(("block", (0, 0, 0), (4, 4, 4))), ROOM)
        self.assertEqual(cells(("block", (0, 3, 0), (4, 1, 1))), [(x, 3, 0) for x in range(4)])

    def test_cells(self):
        listed = ((0, 0, 0), (0, 3, 1), (2, 0, 0), (2, 0, 3), (3, 3, 3))
        self.assertTrue(is_body(("cells", listed)))
        self.assertEqual(cells(("cells", listed)), list(listed))
        self.assertTrue(is_body(("cells", tuple(ROOM))))
        self.assertEqual(cells(("cells", tuple(ROOM))), ROOM)

    def test_no_cells(self):
        self.assertTrue(is_body(EMPTY))
        self.assertEqual(cells(EMPTY), [])
        self.assertEqual(cells(("less", BAR, BAR)), [])
        self.assertEqual(cells(("common", DOT, ("cells", ((1, 1, 1),)))), [])
        self.assertEqual(cells(("moved", (3, -3, 3), EMPTY)), [])

    def test_with(self):
        body = ("with", POST, BAR)
        self.assertTrue(is_body(body))
        self.assertEqual(cells(body), [(0, 0, 0), (1, 0, 0), (1, 0, 1), (1, 0, 2), (2, 0, 0)])
        self.assertEqual(cells(("with", BAR, BAR)), cells(BAR))

    def test_common(self):
        body = ("common", POST, BAR)
        self.assertTrue(is_body(body))
        self.assertEqual(cells(body), [(1, 0, 0)])

    def test_less(self):
        self.assertTrue(is_body(("less", POST, BAR)))
        self.assertEqual(cells(("less", POST, BAR)), [(1, 0, 1), (1, 0, 2)])
        self.assertEqual(cells(("less", BAR, POST)), [(0, 0, 0), (2, 0, 0)])

    def test_moved(self):
        body = ("moved", (1, 3, 2), BAR)
        self.assertTrue(is_body(body))
        self.assertEqual(cells(body), [(1, 3, 2), (2, 3, 2), (3, 3, 2)])
        self.assertEqual(cells(("moved", (-1, -3, -2), body)), cells(BAR))
        self.assertEqual(cells(("moved", (0, 0, 0), BAR)), cells(BAR))

    def test_moved_as_far_as_can_be(self):
        self.assertEqual(cells(("moved", (3, 3, 3), DOT)), [(3, 3, 3)])
        corner = ("cells", ((3, 3, 3),))
        self.assertEqual(cells(("moved", (-3, -3, -3), corner)), [(0, 0, 0)])

    def test_turned_around_x(self):
        body = ("turned", "x", ("cells", ((0, 1, 2), (1, 0, 0), (2, 3, 0), (3, 0, 3))))
        self.assertTrue(is_body(body))
        self.assertEqual(cells(body), [(0, 1, 1), (1, 3, 0), (2, 3, 3), (3, 0, 0)])

    def test_turned_around_y(self):
        body = ("turned", "y", ("cells", ((0, 1, 2), (1, 0, 0), (2, 3, 0), (3, 0, 3))))
        self.assertTrue(is_body(body))
        self.assertEqual(cells(body), [(0, 0, 2), (0, 3, 1), (2, 1, 3), (3, 0, 0)])

    def test_turned_around_z(self):
        body = ("turned", "z", ("cells", ((0, 1, 2), (1, 0, 0), (2, 3, 0), (3, 0, 3))))
        self.assertTrue(is_body(body))
        self.assertEqual(cells(body), [(0, 2, 0), (2, 0, 2), (3, 1, 0), (3, 3, 3)])

    def test_each_cell_turned(self):
        for x, y, z in ROOM:
            body = ("cells", ((x, y, z),))
            self.assertEqual(cells(("turned", "x", body)), [(x, 3 - z, y)])
            self.assertEqual(cells(("turned", "y", body)), [(z, y, 3 - x)])
            self.assertEqual(cells(("turned", "z", body)), [(3 - y, x, z)])

    def test_four_quarters_are_none(self):
        listed = ("cells", ((0, 0, 0), (0, 1, 3), (2, 1, 0)))
        for edge in "xyz":
            body = listed
            for _ in range(4):
                body = ("turned", edge, body)
            self.assertEqual(cells(body), cells(listed))

    def test_within_one_another(self):
        moved_first = ("turned", "z", ("moved", (1, 0, 0), DOT))
        turned_first = ("moved", (-1, 0, 0), ("turned", "z", DOT))
        self.assertEqual(cells(moved_first), [(3, 1, 0)])
        self.assertEqual(cells(turned_first), [(2, 0, 0)])
        self.assertEqual(cells(("with", moved_first, turned_first)), [(2, 0, 0), (3, 1, 0)])
        inner = ("less", ("with", BAR, POST), ("common", BAR, POST))
        self.assertEqual(cells(inner), [(0, 0, 0), (1, 0, 1), (1, 0, 2), (2, 0, 0)])
        self.assertEqual(
            cells(("turned", "y", ("moved", (1, 2, 0), inner))),
            [(0, 2, 0), (0, 2, 2), (1, 2, 1), (2, 2, 1)],
        )

    def test_turns_are_done_from_within(self):
        body = ("cells", ((0, 1, 2),))
        self.assertEqual(cells(("turned", "x", ("turned", "y", body))), [(2, 0, 1)])
        self.assertEqual(cells(("turned", "y", ("turned", "x", body))), [(1, 1, 3)])

    def test_many_bodies_against_the_plain_words(self):
        rng = random.Random(7)
        seen = set()
        for _ in range(600):
            body = some_body(rng, 19)
            self.assertTrue(is_body(body))
            if leaves(body):
                seen.add("Outside")
                self.assertRaises(Outside, cells, body)
            else:
                seen.add(body[0])
                self.assertEqual(cells(body), sorted(reference.held(body)))
        self.assertEqual(len(seen), 8)


class Limits(unittest.TestCase):
    def test_twenty_bodies(self):
        self.assertTrue(is_body(chain(20)))
        self.assertEqual(cells(chain(20)), [(0, 3, 0)])
        self.assertTrue(is_body(joined(19)))
        self.assertTrue(is_body(spread(19)))
        self.assertTrue(is_body(("turned", "z", joined(19))))
        self.assertTrue(is_body(("turned", "x", spread(19))))
        self.assertEqual(cells(("turned", "z", spread(19))), [(3, 0, 0)])
        self.assertEqual(cells(("turned", "z", joined(19))), [(3, 0, 0)])

    def test_each_function_answers_of_twenty_bodies(self):
        for body in (chain(20), ("turned", "z", joined(19)), ("turned", "z", spread(19))):
            for name, call in HANDED:
                with self.subTest(function=name):
                    call(body)

    def test_twenty_one_bodies(self):
        twice = ("turned", "z", ("turned", "z", joined(19)))
        for body in (chain(21), joined(21), spread(21), twice, chain(21, OUT_BLOCK)):
            self.assertIs(is_body(body), False)
            for name, call in HANDED:
                with self.subTest(function=name):
                    self.assertRaises(NoBody, call, body)

    def test_bodies_within_count_at_both_places(self):
        self.assertTrue(is_body(("with", chain(9), chain(10))))
        self.assertFalse(is_body(("with", chain(10), chain(10))))
        twice = chain(9)
        self.assertTrue(is_body(("less", twice, twice)))
        twice = chain(10)
        self.assertFalse(is_body(("less", twice, twice)))

    def test_very_many_bodies_are_refused_soon(self):
        body = DOT
        for _ in range(200):
            body = ("with", body, body)
        self.assertFalse(is_body(body))
        self.assertRaises(NoBody, cells, body)

    def test_numbers_at_the_edges(self):
        self.assertTrue(is_body(("block", (3, 3, 3), (4, 4, 4))))
        self.assertTrue(is_body(("moved", (3, -3, 3), DOT)))
        self.assertTrue(is_body(("cells", ((0, 0, 3), (3, 0, 0), (3, 3, 3)))))


class NoBodies(unittest.TestCase):
    def test_is_body_is_false(self):
        for what, body in NO_BODIES.items():
            with self.subTest(what):
                self.assertIs(is_body(body), False)

    def test_each_function_refuses_them(self):
        for what, body in NO_BODIES.items():
            for name, call in HANDED:
                with self.subTest(what, function=name):
                    self.assertRaises(NoBody, call, body)

    def test_what_holds_one_is_none(self):
        for what, inner in NO_BODIES.items():
            for where, body in around(inner).items():
                with self.subTest(what, where=where):
                    self.assertIs(is_body(body), False)
                    self.assertRaises(NoBody, cells, body)

    def test_each_function_refuses_what_holds_one(self):
        for what in ("a wrong word", "corner with x 4", "a cell twice", "far with y -4", "another edge", "21 spread"):
            for where, body in around(NO_BODIES[what]).items():
                for name, call in HANDED:
                    with self.subTest(what, where=where, function=name):
                        self.assertRaises(NoBody, call, body)

    def test_they_are_refused_ahead_of_all_else(self):
        for what, body in NO_BODIES.items():
            for name, call in HANDED_WRONG:
                with self.subTest(what, function=name):
                    self.assertRaises(NoBody, call, body)

    def test_true_and_false_are_no_numbers(self):
        for body in (
            ("block", (False, 0, 0), (1, 1, 1)),
            ("block", (0, 0, 0), (1, True, 1)),
            ("cells", ((0, 0, True),)),
            ("moved", (0, False, 0), DOT),
        ):
            self.assertIs(is_body(body), False)


class OutsideTheRoom(unittest.TestCase):
    def test_is_body_is_true(self):
        for what, body in OUTSIDE.items():
            with self.subTest(what):
                self.assertIs(is_body(body), True)

    def test_each_function_refuses_them(self):
        for what, body in OUTSIDE.items():
            for name, call in HANDED:
                with self.subTest(what, function=name):
                    self.assertRaises(Outside, call, body)

    def test_along_each_edge_and_in_both_directions(self):
        for body in some_out():
            with self.subTest(body):
                self.assertIs(is_body(body), True)
                for name, call in HANDED:
                    self.assertRaises(Outside, call, body)

    def test_within_another_body(self):
        # Whether the outer one drops these cells, brings them back or has them still.
        for inner in some_out():
            for where, body in around(inner).items():
                with self.subTest(inner, where=where):
                    self.assertIs(is_body(body), True)
                    self.assertRaises(Outside, cells, body)

    def test_each_function_refuses_them_within_another_body(self):
        for inner in some_out()[::7]:
            for where, body in around(inner).items():
                for name, call in HANDED:
                    with self.subTest(inner, where=where, function=name):
                        self.assertRaises(Outside, call, body)

    def test_they_are_refused_ahead_of_all_else(self):
        for body in some_out() + list(OUTSIDE.values()):
            for name, call in HANDED_WRONG:
                with self.subTest(body, function=name):
                    self.assertRaises(Outside, call, body)

    def test_what_stays_at_the_walls_is_inside(self):
        for edge in range(3):
            for far in (1, 2, 3):
                step = tuple(far if k == edge else 0 for k in range(3))
                back = tuple(-n for n in step)
                there = ("moved", step, ("block", (0, 0, 0), tuple(4 - n for n in step)))
                self.assertEqual(max(cell[edge] for cell in cells(there)), 3)
                self.assertEqual(cells(("moved", back, there)), cells(("block", (0, 0, 0), tuple(4 - n for n in step))))

    def test_no_body_is_ahead_of_outside(self):
        for body in (
            ("with", OUT_BLOCK, ("bloc", (0, 0, 0), (1, 1, 1))),
            ("with", ("bloc", (0, 0, 0), (1, 1, 1)), OUT_MOVED),
            ("less", OUT_MOVED, 3),
            chain(21, OUT_BLOCK),
            ("moved", (4, 0, 0), OUT_BLOCK),
        ):
            self.assertIs(is_body(body), False)
            for name, call in HANDED:
                with self.subTest(function=name):
                    self.assertRaises(NoBody, call, body)

    def test_of_two_bodies_the_first_is_refused_ahead(self):
        self.assertRaises(Outside, alike, OUT_BLOCK, ("no",))
        self.assertRaises(NoBody, alike, ("no",), OUT_BLOCK)
        self.assertRaises(Outside, alike, OUT_MOVED, DOT)
        self.assertRaises(NoBody, alike, DOT, ("no",))
        self.assertRaises(Outside, alike, EMPTY, OUT_BLOCK)

    def test_an_empty_body_never_leaves(self):
        self.assertEqual(cells(("moved", (3, 3, 3), ("moved", (3, 3, 3), EMPTY))), [])


class Slices(unittest.TestCase):
    def test_each_layer(self):
        body = ("with", BAR, ("with", POST, ("cells", ((0, 3, 2), (3, 1, 0), (3, 3, 3)))))
        self.assertEqual(slice_at(body, 0), ("###.", "...#", "....", "...."))
        self.assertEqual(slice_at(body, 1), (".#..", "....", "....", "...."))
        self.assertEqual(slice_at(body, 2), (".#..", "....", "....", "#..."))
        self.assertEqual(slice_at(body, 3), ("....", "....", "....", "...#"))

    def test_each_layer_of_a_slope(self):
        body = ("cells", ((0, 0, 0), (1, 1, 1), (1, 2, 1), (2, 2, 2), (3, 0, 3)))
        self.assertEqual(slice_at(body, 0), ("#...", "....", "....", "...."))
        self.assertEqual(slice_at(body, 1), ("....", ".#..", ".#..", "...."))
        self.assertEqual(slice_at(body, 2), ("....", "....", "..#.", "...."))
        self.assertEqual(slice_at(body, 3), ("...#", "....", "....", "...."))

    def test_empty_and_full(self):
        for z in range(4):
            self.assertEqual(slice_at(EMPTY, z), ("....",) * 4)
            self.assertEqual(slice_at(("block", (0, 0, 0), (4, 4, 4)), z), ("####",) * 4)

    def test_it_is_a_tuple_of_texts(self):
        told = slice_at(BAR, 0)
        self.assertIsInstance(told, tuple)
        self.assertTrue(all(isinstance(row, str) for row in told))

    def test_no_layer(self):
        for z in (-1, 4, 5, -4, 100, 10 ** 30, -(10 ** 30)):
            for body in (BAR, EMPTY, ("block", (0, 0, 0), (4, 4, 4))):
                with self.subTest(z):
                    self.assertRaises(NoLayer, slice_at, body, z)

    def test_a_refused_body_is_ahead_of_no_layer(self):
        self.assertRaises(NoBody, slice_at, ("no",), 4)
        self.assertRaises(NoBody, slice_at, chain(21), -1)
        self.assertRaises(Outside, slice_at, OUT_BLOCK, 4)
        self.assertRaises(Outside, slice_at, OUT_MOVED, -1)


class Told(unittest.TestCase):
    def test_cells_is_a_list_of_tuples(self):
        for body in (EMPTY, BAR, ("with", BAR, POST), ("cells", ((1, 2, 3),))):
            told = cells(body)
            self.assertIsInstance(told, list)
            self.assertTrue(all(isinstance(cell, tuple) for cell in told))

    def test_told_cells_may_be_changed(self):
        for body in (EMPTY, BAR, ("cells", ((0, 0, 0), (1, 2, 3))), ("turned", "x", POST), ("less", BAR, POST)):
            first = cells(body)
            wanted = list(first)
            first.append((9, 9, 9))
            first.reverse()
            self.assertEqual(cells(body), wanted)
            cells(body).clear()
            self.assertEqual(cells(body), wanted)


if __name__ == "__main__":
    unittest.main()
