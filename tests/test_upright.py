import time
import unittest
from itertools import product

import reference
from layerprint.bodies import cells
from layerprint.errors import BadReach, NoBody, Outside
from layerprint.hanging import filled
from layerprint.props import fewest
from layerprint.turning import turnings
from layerprint.upright import best
from samples import (
    BAD_REACHES, DOT, EMPTY, FULL, NO_BODY, OUTSIDE, as_body, assert_refused, drawn_layer, many_cells,
)

BAR = ("block", (0, 2, 1), (3, 1, 1))
ANGLE = as_body([(0, 0, 0), (0, 1, 0), (1, 0, 0)])
HOOK = as_body([(x, 0, 0) for x in range(4)] + [(3, 0, 1), (3, 0, 2)])
CROOKED = as_body([(0, 0, 0), (1, 0, 0), (2, 0, 0), (2, 1, 0), (2, 1, 1)])
LONE = as_body([(0, 0, 0), (0, 0, 1), (0, 1, 0), (0, 2, 0), (1, 0, 0), (2, 0, 0), (3, 0, 0)])
TABLE = as_body([(0, 0, 0), (3, 3, 0)] + drawn_layer(1, "####", "####", "####", "####"))
APART = as_body([(0, 0, 0), (3, 3, 3)])
# Bodies by how many turnings they have.
ALL = {
    1: (EMPTY, FULL, DOT, ("block", (1, 1, 1), (2, 2, 2))),
    3: (BAR, ("block", (0, 0, 2), (4, 4, 1))),
    4: (APART,),
    6: (("block", (1, 0, 0), (1, 2, 3)),),
    12: (ANGLE,),
    24: (HOOK, CROOKED, LONE),
}
SAMPLES = [as_body(listed) for listed in many_cells(61, 12)]
SPARSE = [as_body(listed[::3]) for listed in many_cells(62, 12)]
REACHES = (0, 1, 2)


def laid_out(listed):
    return ("cells", tuple(listed))


def by_words(told):
    """The rows in the order of their words."""
    return sorted(told, key=lambda row: (len(row[0]), row[0]))


def numbers(told):
    return [(many, full) for _, many, full in told]


class Best(unittest.TestCase):
    def test_one_turning(self):
        for body in ALL[1]:
            for reach in REACHES:
                self.assertEqual(best(body, reach), [("", 0, 0)])

    def test_how_many_turnings(self):
        for many, bodies in ALL.items():
            for body, reach in product(bodies, REACHES):
                self.assertEqual(len(best(body, reach)), many)

    def test_an_angle_by_hand(self):
        lies_or_stands = [(word, 0, 0) for word in ("", "x", "z", "xx", "xz", "zx", "zz", "xzx")]
        upside_down = [(word, 1, 1) for word in ("y", "xy", "yz", "xxy")]
        # The four that have their corner above: "y" turns (0, 1, 0) to the upper layer.
        self.assertEqual(len(turnings(ANGLE)), 12)
        self.assertEqual(len(lies_or_stands) + len(upside_down), 12)
        for word, _, _ in upside_down:
            upper = [cell for cell in dict(turnings(ANGLE))[word] if cell[2] == 1]
            self.assertEqual(len(upper), 2)
        self.assertEqual(best(ANGLE, 0), lies_or_stands + upside_down)
        for reach in (1, 2):
            self.assertEqual(best(ANGLE, reach), [(word, 0, 0) for word, _ in turnings(ANGLE)])

    def test_two_cells_apart(self):
        # Of each turning one cell lies on the ground, and the other one hangs three above it.
        for reach in REACHES:
            self.assertEqual(best(APART, reach), [(word, 1, 3) for word in ("", "x", "y", "z")])

    def test_the_words_of_turnings_each_once(self):
        for bodies in (*ALL.values(), SAMPLES, SPARSE):
            for body, reach in product(bodies, REACHES):
                words = [word for word, _, _ in by_words(best(body, reach))]
                self.assertEqual(words, [word for word, _ in turnings(body)])

    def test_the_numbers_of_each_turning(self):
        for bodies in (*ALL.values(), SAMPLES, SPARSE, [TABLE]):
            for body, reach in product(bodies, REACHES):
                turned = dict(turnings(body))
                for word, many, full in best(body, reach):
                    one = laid_out(turned[word])
                    props = [cell for _, under, _ in fewest(one, reach) for cell in under]
                    self.assertEqual((many, full), (len(props), filled(one, props)))

    def test_against_every_word_and_every_group(self):
        for body in (BAR, ANGLE, HOOK, CROOKED, LONE, APART, *SPARSE[:5]):
            for reach in REACHES:
                wanted = []
                for word, listed in reference.all_turnings(cells(body), longest=4):
                    found = set(listed)
                    props = [cell for z in range(4) for cell in reference.best_props(found, reach, z) or []]
                    wanted.append((word, len(props), reference.fill(found, props)))
                wanted = sorted(wanted, key=lambda row: (row[1], row[2], len(row[0]), row[0]))
                self.assertEqual(best(body, reach), wanted)

    def test_fewer_props_are_ahead_of_less_filled(self):
        wanted = [(0, 0)] * 12 + [(3, 9)] * 4 + [(4, 8)] * 4 + [(5, 5)] * 4
        self.assertEqual(numbers(best(LONE, 0)), wanted)

    def test_of_as_many_props_the_fewest_filled(self):
        told = best(HOOK, 1)
        self.assertEqual(numbers(told), [(0, 0)] * 16 + [(1, 2)] * 4 + [(1, 3)] * 4)
        self.assertEqual([word for word, _, _ in told[16:]], ["xx", "yy", "xxz", "yyz", "zx", "xzx", "yyy", "xxzx"])

    def test_of_as_many_filled_the_order_of_the_words(self):
        for bodies in (*ALL.values(), SAMPLES, SPARSE):
            for body, reach in product(bodies, REACHES):
                told = best(body, reach)
                keys = [(many, full, len(word), word) for word, many, full in told]
                self.assertEqual(keys, sorted(keys))

    def test_of_any_body(self):
        bent = ("with", BAR, ("moved", (0, 0, 1), ("turned", "y", ("block", (2, 2, 0), (2, 1, 1)))))
        for body in (bent, ("less", FULL, ("block", (1, 1, 0), (2, 2, 3))), ("common", BAR, FULL)):
            for reach in REACHES:
                self.assertEqual(best(body, reach), best(laid_out(cells(body)), reach))

    def test_kinds_of_values(self):
        for body in (EMPTY, BAR, LONE):
            told = best(body, 0)
            self.assertIsInstance(told, list)
            for row in told:
                self.assertEqual([each.__class__ for each in (row, *row)], [tuple, str, int, int])

    def test_told_lists_may_be_changed(self):
        for body in (EMPTY, BAR, ANGLE, LONE):
            wanted = list(best(body, 1))
            best(body, 1).clear()
            changed = best(body, 1)
            changed.append(("w", 9, 9))
            changed.reverse()
            self.assertEqual(best(body, 1), wanted)

    def test_in_a_few_seconds(self):
        for body in SAMPLES + [TABLE, LONE]:
            for reach in REACHES:
                begun = time.process_time()
                best(body, reach)
                self.assertLess(time.process_time() - begun, 2)


class TheSameBest(unittest.TestCase):
    def test_each_turning_has_the_same(self):
        for body in (BAR, ANGLE, HOOK, CROOKED, APART, TABLE, *SAMPLES[:4], *SPARSE[:4]):
            for reach in REACHES:
                wanted = numbers(best(body, reach))
                for _, listed in turnings(body):
                    self.assertEqual(numbers(best(laid_out(listed), reach)), wanted)

    def test_turned_or_moved_as_a_body(self):
        for body in (CROOKED, LONE, TABLE, SAMPLES[5]):
            for edge, reach in product("xyz", REACHES):
                self.assertEqual(numbers(best(("turned", edge, body), reach)), numbers(best(body, reach)))
        for far, reach in product(((1, 2, 2), (0, 1, 0), (1, 0, 2)), REACHES):
            self.assertEqual(best(("moved", far, CROOKED), reach), best(CROOKED, reach))

    def test_the_best_is_none_the_worse_than_as_it_is(self):
        for body, reach in product(SAMPLES, REACHES):
            as_it_is = [row[1:] for row in best(body, reach) if row[0] == ""]
            self.assertLessEqual(numbers(best(body, reach))[0], as_it_is[0])

    def test_no_turning_of_a_block_needs_a_prop(self):
        for size in product(range(1, 5), repeat=3):
            for corner in ((0, 0, 0), tuple(4 - n for n in size)):
                body = ("block", corner, size)
                for reach in REACHES:
                    told = best(body, reach)
                    self.assertEqual(len(told), {1: 1, 2: 3, 3: 6}[len(set(size))])
                    self.assertEqual(set(numbers(told)), {(0, 0)})

    def test_nor_of_a_moved_or_turned_one(self):
        for size in product((1, 2, 3), repeat=3):
            block = ("block", (0, 0, 0), size)
            for body in (("moved", (1, 0, 1), block), ("turned", "x", ("moved", (0, 1, 1), block))):
                self.assertEqual(set(numbers(best(body, 0))), {(0, 0)})

    def test_a_body_without_cells(self):
        for body in (EMPTY, ("less", FULL, FULL), ("common", BAR, ("block", (0, 0, 0), (1, 1, 1)))):
            for reach in REACHES:
                self.assertEqual(best(body, reach), [("", 0, 0)])


class Refused(unittest.TestCase):
    def test_bad_reach(self):
        for reach in BAD_REACHES:
            for body in (EMPTY, FULL, BAR, LONE):
                assert_refused(self, BadReach, best, body, reach)

    def test_a_refused_body_is_ahead_of_it(self):
        for body, wanted in ((NO_BODY, NoBody), (OUTSIDE, Outside)):
            for reach in (*REACHES, *BAD_REACHES):
                assert_refused(self, wanted, best, body, reach)


if __name__ == "__main__":
    unittest.main()
