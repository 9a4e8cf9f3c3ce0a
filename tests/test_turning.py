import random
import unittest

import reference
from layerprint.bodies import cells
from layerprint.turning import alike, laid, turnings

EMPTY = ("cells", ())
DOT = ("block", (2, 1, 3), (1, 1, 1))
CUBE = ("block", (1, 0, 2), (2, 2, 2))
BAR = ("block", (0, 2, 1), (3, 1, 1))
PLATE = ("block", (0, 0, 0), (2, 2, 1))
BRICK = ("block", (0, 0, 0), (3, 2, 1))
ANGLE = ("cells", ((0, 0, 0), (0, 1, 0), (1, 0, 0)))
# Steps in all three ways: no turning but the whole one leaves it as it is.
CROOKED = ("cells", ((0, 0, 0), (1, 0, 0), (2, 0, 0), (2, 1, 0), (2, 1, 1)))
MIRRORED = ("cells", ((0, 0, 0), (0, 1, 0), (0, 1, 1), (1, 0, 0), (2, 0, 0)))
LONE = ("cells", ((0, 0, 0), (0, 0, 1), (0, 1, 0), (0, 2, 0), (1, 0, 0), (2, 0, 0), (3, 0, 0)))
WORDS = (
    "", "x", "y", "z", "xx", "xy", "xz", "yy", "yz", "zx", "zz", "xxx", "xxy", "xxz", "xyy", "xzx",
    "xzz", "yyy", "yyz", "zzz", "xxxz", "xxzx", "xyyz", "xzzz",
)
ALL = (EMPTY, DOT, CUBE, BAR, PLATE, BRICK, ANGLE, CROOKED, MIRRORED, LONE)


def as_cells(listed):
    return ("cells", tuple(listed))


def by_turns(word, body):
    """The body within a turn for each letter, the first letter's innermost."""
    for edge in word:
        body = ("turned", edge, body)
    return body


class Laid(unittest.TestCase):
    def test_away_from_the_corner(self):
        self.assertEqual(laid(DOT), [(0, 0, 0)])
        self.assertEqual(laid(BAR), [(0, 0, 0), (1, 0, 0), (2, 0, 0)])
        self.assertEqual(laid(("cells", ((3, 3, 3),))), [(0, 0, 0)])
        body = ("cells", ((1, 3, 2), (2, 2, 3), (3, 3, 1)))
        self.assertEqual(laid(body), [(0, 1, 1), (1, 0, 2), (2, 1, 0)])

    def test_each_way_by_its_own_least(self):
        self.assertEqual(laid(("cells", ((0, 1, 3), (1, 2, 3)))), [(0, 0, 0), (1, 1, 0)])
        self.assertEqual(laid(("cells", ((2, 0, 1), (3, 0, 2)))), [(0, 0, 0), (1, 0, 1)])

    def test_at_the_corner_already(self):
        self.assertEqual(laid(CROOKED), cells(CROOKED))
        self.assertEqual(laid(("block", (0, 0, 0), (4, 4, 4))), cells(("block", (0, 0, 0), (4, 4, 4))))

    def test_without_a_cell_at_the_corner(self):
        body = ("cells", ((1, 2, 1), (2, 1, 2)))
        self.assertEqual(laid(body), [(0, 1, 0), (1, 0, 1)])

    def test_empty(self):
        self.assertEqual(laid(EMPTY), [])
        self.assertEqual(laid(("less", CUBE, CUBE)), [])

    def test_moves_make_no_difference(self):
        wanted = laid(CROOKED)
        for far in ((1, 0, 0), (0, 2, 0), (0, 0, 2), (1, 2, 2)):
            self.assertEqual(laid(("moved", far, CROOKED)), wanted)


class Turnings(unittest.TestCase):
    def test_no_symmetry(self):
        for body in (LONE, CROOKED, MIRRORED):
            told = turnings(body)
            self.assertEqual(len(told), 24)
            self.assertEqual(tuple(word for word, _ in told), WORDS)
            for word, found in told:
                self.assertEqual(found, laid(by_turns(word, body)))

    def test_a_cube_has_one(self):
        self.assertEqual(turnings(CUBE), [("", laid(CUBE))])
        self.assertEqual(turnings(DOT), [("", [(0, 0, 0)])])
        whole = ("block", (0, 0, 0), (4, 4, 4))
        self.assertEqual(turnings(whole), [("", cells(whole))])

    def test_empty(self):
        self.assertEqual(turnings(EMPTY), [("", [])])

    def test_some_symmetry(self):
        self.assertEqual(
            turnings(BAR),
            [
                ("", [(0, 0, 0), (1, 0, 0), (2, 0, 0)]),
                ("y", [(0, 0, 0), (0, 0, 1), (0, 0, 2)]),
                ("z", [(0, 0, 0), (0, 1, 0), (0, 2, 0)]),
            ],
        )
        self.assertEqual(
            turnings(PLATE),
            [
                ("", [(0, 0, 0), (0, 1, 0), (1, 0, 0), (1, 1, 0)]),
                ("x", [(0, 0, 0), (0, 0, 1), (1, 0, 0), (1, 0, 1)]),
                ("y", [(0, 0, 0), (0, 0, 1), (0, 1, 0), (0, 1, 1)]),
            ],
        )
        self.assertEqual([word for word, _ in turnings(BRICK)], ["", "x", "y", "z", "xy", "xz"])
        self.assertEqual(len(turnings(ANGLE)), 12)

    def test_words_turn_their_first_letter_first(self):
        told = dict((word, found) for word, found in turnings(BRICK))
        # Around x it lies 3 by 1 by 2, and then around y 2 by 1 by 3.
        self.assertEqual(told["x"], cells(("block", (0, 0, 0), (3, 1, 2))))
        self.assertEqual(told["xy"], cells(("block", (0, 0, 0), (2, 1, 3))))

    def test_against_every_word(self):
        for body in ALL:
            self.assertEqual(turnings(body), reference.all_turnings(cells(body)))

    def test_many_bodies_against_every_word(self):
        rng = random.Random(11)
        room = [(x, y, z) for x in range(4) for y in range(4) for z in range(4)]
        small = [cell for cell in room if max(cell) < 2]
        for _ in range(20):
            found = sorted(rng.sample(small, rng.randint(1, 8)))
            self.assertEqual(turnings(as_cells(found)), reference.all_turnings(found, longest=5))
        for _ in range(10):
            found = sorted(rng.sample(room, rng.randint(1, 64)))
            self.assertEqual(turnings(as_cells(found)), reference.all_turnings(found, longest=5))

    def test_in_the_order_of_words_and_each_once(self):
        for body in ALL:
            told = turnings(body)
            words = [word for word, _ in told]
            self.assertEqual(words, sorted(words, key=lambda word: (len(word), word)))
            self.assertEqual(words[0], "")
            for at, (_, found) in enumerate(told):
                self.assertEqual(found, sorted(found))
                self.assertNotIn(found, [other for _, other in told[:at]])

    def test_where_it_lies_makes_no_difference(self):
        for far in ((1, 0, 0), (0, 2, 1), (1, 2, 2)):
            self.assertEqual(turnings(("moved", far, CROOKED)), turnings(CROOKED))

    def test_kinds_of_values(self):
        told = turnings(BRICK)
        self.assertIsInstance(told, list)
        for each in told:
            self.assertIsInstance(each, tuple)
            word, found = each
            self.assertIsInstance(word, str)
            self.assertIsInstance(found, list)
            self.assertTrue(all(isinstance(cell, tuple) for cell in found))


class Alike(unittest.TestCase):
    def test_with_itself(self):
        for body in ALL:
            self.assertEqual(alike(body, body), "")

    def test_moved(self):
        self.assertEqual(alike(CROOKED, ("moved", (1, 2, 2), CROOKED)), "")
        self.assertEqual(alike(("moved", (1, 0, 1), CROOKED), CROOKED), "")

    def test_turned_and_moved(self):
        for word in WORDS:
            other = by_turns(word, CROOKED)
            self.assertEqual(alike(CROOKED, other), word)
            self.assertEqual(alike(CROOKED, as_cells(laid(other))), word)

    def test_the_first_word_of_several(self):
        self.assertEqual(alike(BAR, by_turns("xxy", BAR)), "y")
        self.assertEqual(alike(BAR, by_turns("xzx", BAR)), alike(BAR, ("block", (0, 0, 0), (1, 1, 3))))
        self.assertEqual(alike(PLATE, by_turns("zzxz", PLATE)), "y")
        self.assertEqual(alike(CUBE, by_turns("xyz", CUBE)), "")

    def test_it_is_the_one_that_is_turned(self):
        other = by_turns("xy", CROOKED)
        self.assertEqual(alike(CROOKED, other), "xy")
        back = alike(other, CROOKED)
        self.assertNotEqual(back, "xy")
        self.assertEqual(laid(by_turns(back, other)), laid(CROOKED))

    def test_unlike(self):
        self.assertIsNone(alike(BAR, PLATE))
        self.assertIsNone(alike(BAR, ("block", (0, 0, 0), (4, 1, 1))))
        self.assertIsNone(alike(DOT, EMPTY))
        self.assertIsNone(alike(EMPTY, DOT))
        self.assertIsNone(alike(ANGLE, ("block", (0, 0, 0), (3, 1, 1))))

    def test_both_empty(self):
        self.assertEqual(alike(EMPTY, ("less", CUBE, CUBE)), "")

    def test_mirror_image(self):
        flipped = sorted((2 - x, y, z) for x, y, z in cells(CROOKED))
        self.assertEqual(cells(MIRRORED), flipped)
        self.assertIsNone(alike(CROOKED, MIRRORED))
        self.assertIsNone(alike(MIRRORED, CROOKED))

    def test_a_mirror_image_that_is_alike(self):
        flipped = as_cells(sorted((1 - x, y, z) for x, y, z in cells(ANGLE)))
        self.assertEqual(alike(ANGLE, flipped), "z")


class Told(unittest.TestCase):
    def test_told_lists_may_be_changed(self):
        for body in ALL:
            wanted = list(laid(body))
            laid(body).append((7, 7, 7))
            laid(body).clear()
            self.assertEqual(laid(body), wanted)

    def test_inner_lists_may_be_changed(self):
        for body in ALL:
            wanted = [(word, list(found)) for word, found in turnings(body)]
            told = turnings(body)
            for _, found in told:
                found.append((7, 7, 7))
            for (_, found), (_, other) in zip(told, wanted):
                self.assertEqual(found, other + [(7, 7, 7)])
            told.reverse()
            self.assertEqual(turnings(body), wanted)
            for _, found in turnings(body):
                found.clear()
            self.assertEqual(turnings(body), wanted)
            self.assertEqual(laid(body), wanted[0][1])
            self.assertEqual(alike(body, as_cells(wanted[-1][1])), wanted[-1][0])


if __name__ == "__main__":
    unittest.main()
