import copy
import random
import time
import unittest
from itertools import product

import reference
from layerprint.errors import BadPlace, NoBody, NoLayer, Outside
from layerprint.strokes import best_order, strokes
from layerprint.tables import holds, table
from samples import (
    BAD_PLACES, DOT, EMPTY, FAR_NUMBERS, FULL, NO_BODY, OUTSIDE, PLACES, as_body, assert_refused, drawn_layer,
    many_cells,
)

# Layers of none, one, two, four, six and eight strokes, each in a body that has other cells, too.
DRAWN = (
    (0, 2, []),
    (1, 0, drawn_layer(0, "....", ".###")),
    (1, 3, drawn_layer(3, "....", "....", "....", "..#.")),
    (2, 1, drawn_layer(1, "#..#")),
    (2, 2, drawn_layer(2, "....", "####", "....", ".##.")),
    (4, 3, drawn_layer(3, "#.##", "....", ".##.", "...#")),
    (4, 0, drawn_layer(0, "####", "####", "####", "####")),
    (6, 1, drawn_layer(1, "##.#", ".##.", "#.##", "#...")),
    (8, 2, drawn_layer(2, "#.#.", ".#.#", "#.##", "##.#")),
    (8, 0, drawn_layer(0, "##.#", "#.##", "##.#", "#.##")),
)
LAYERS = [(many, z, as_body(listed + [(1, 2, (z + 1) % 4)])) for many, z, listed in DRAWN]
SMALL = [each for each in LAYERS if each[0] <= 4]
STARTS = ((0, 0), (3, 1), (1, 3))
APART = as_body(drawn_layer(0, "#..#"))
# The least way of this layer from (1, 0), and all that follows from the numbers behind: told by hand.
APART_TABLE = [
    ((), (1, 0), 4),
    ((0,), (0, 0), 3),
    ((1,), (3, 0), 3),
    ((0, 1), (0, 0), 0),
    ((0, 1), (3, 0), 0),
]


def runs_of(body, z):
    return reference.runs(reference.held(body), z)


def exchanged(told, at, *rows):
    """The table with other rows, or none, instead of the one at this number."""
    return told[:at] + list(rows) + told[at + 1:]


def told_otherwise(told):
    """The table with one row told otherwise, in many ways."""
    for at, (done, here, number) in enumerate(told):
        yield exchanged(told, at)
        yield exchanged(told, at, told[at], told[at])
        yield exchanged(told, at, told[at], (done, here, number - 1))
        for other in (number + 1, number - 1, -1, -7, 10 ** 30, -(10 ** 30)):
            yield exchanged(told, at, (done, here, other))
        for place in ((0, 0), (3, 3), (-1, 0), (0, -1), (4, 2), (2, 4)):
            yield exchanged(told, at, (done, place, number))
            yield exchanged(told, at, told[at], (done, place, number))
            yield exchanged(told, at, told[at], (done, place, -9))
        for other in (done + (0,), done + (1,), done[::-1], done[1:], (0, 0), (1, 0), (-1,), (0, 8), (7, 8)):
            yield exchanged(told, at, (other, here, number))
            yield exchanged(told, at, told[at], (other, here, -9))


def lowered(told, by):
    return [(done, here, number - by) for done, here, number in told]


class Table(unittest.TestCase):
    def test_the_layers_have_so_many_strokes(self):
        for many, z, body in LAYERS:
            self.assertEqual(len(strokes(body, z)), many)

    def test_it_shows_the_least_way(self):
        for many, z, body in LAYERS:
            for place in PLACES if many < 8 else STARTS:
                way, _ = best_order(body, z, place)
                told = table(body, z, place)
                self.assertTrue(reference.table_shows(runs_of(body, z), place, way, told), (many, place))
                self.assertFalse(reference.table_shows(runs_of(body, z), place, way + 1, told), (many, place))

    def test_of_many_layers(self):
        for at, listed in enumerate(many_cells(51, 25)):
            body = as_body(listed)
            for z in range(4):
                place = PLACES[(3 * at + z) % 16]
                way, _ = best_order(body, z, place)
                told = table(body, z, place)
                self.assertTrue(reference.table_shows(runs_of(body, z), place, way, told))
                self.assertTrue(holds(body, z, place, way, told))
                self.assertFalse(holds(body, z, place, way + 1, told))

    def test_no_stroke(self):
        for place in PLACES:
            for body, z in ((EMPTY, 0), (EMPTY, 3), (DOT, 1), (("less", FULL, FULL), 2)):
                told = table(body, z, place)
                self.assertIn(((), place, 0), told)
                self.assertTrue(reference.table_shows([], place, 0, told))

    def test_kinds_of_values(self):
        for many, z, body in LAYERS:
            told = table(body, z, (2, 1))
            self.assertIsInstance(told, list)
            for row in told:
                self.assertIsInstance(row, tuple)
                done, here, number = row
                self.assertEqual([each.__class__ for each in row], [tuple, tuple, int])
                self.assertTrue(all(each.__class__ is int for each in done + here))

    def test_told_lists_may_be_changed(self):
        for many, z, body in LAYERS:
            wanted = list(table(body, z, (1, 1)))
            table(body, z, (1, 1)).clear()
            changed = table(body, z, (1, 1))
            changed.append(((), (9, 9), 9))
            changed.reverse()
            self.assertEqual(table(body, z, (1, 1)), wanted)

    def test_in_a_time_to_wait_for(self):
        for _, z, body in LAYERS:
            begun = time.process_time()
            told = table(body, z, (1, 2))
            holds(body, z, (1, 2), best_order(body, z, (1, 2))[0], told)
            self.assertLess(time.process_time() - begun, 1)


class Holds(unittest.TestCase):
    def test_of_the_table_told(self):
        for many, z, body in LAYERS:
            for place in PLACES if many < 8 else STARTS:
                way, _ = best_order(body, z, place)
                told = table(body, z, place)
                for much in (0, way - 1, way):
                    if much >= 0:
                        self.assertIs(holds(body, z, place, much, told), True)
                for much in (way + 1, way + 2, 100, 10 ** 30):
                    self.assertIs(holds(body, z, place, much, told), False)

    def test_in_any_order_of_the_rows(self):
        rng = random.Random(52)
        for many, z, body in LAYERS:
            way, _ = best_order(body, z, (2, 3))
            told = table(body, z, (2, 3))
            for _ in range(4):
                rng.shuffle(told)
                self.assertIs(holds(body, z, (2, 3), way, told), True)
                self.assertIs(holds(body, z, (2, 3), way, told[::-1]), True)
                self.assertIs(holds(body, z, (2, 3), way + 1, told), False)

    def test_a_table_by_hand(self):
        self.assertEqual(best_order(APART, 0, (1, 0))[0], 4)
        for much in range(7):
            self.assertIs(holds(APART, 0, (1, 0), much, APART_TABLE), much <= 4)
        # Lower numbers show less.
        for by in range(7):
            for much in range(7):
                self.assertIs(holds(APART, 0, (1, 0), much, lowered(APART_TABLE, by)), much <= 4 - by)

    def test_rows_told_as_low_as_will_do(self):
        low = [((), (1, 0), 4), ((0,), (0, 0), 3), ((1,), (3, 0), 2), ((0, 1), (0, 0), 0), ((0, 1), (3, 0), 0)]
        self.assertTrue(holds(APART, 0, (1, 0), 4, low))
        lower = exchanged(low, 2, ((1,), (3, 0), 1))
        self.assertFalse(holds(APART, 0, (1, 0), 4, lower))
        self.assertTrue(holds(APART, 0, (1, 0), 3, exchanged(lower, 0, ((), (1, 0), 3))))
        negative = [((), (1, 0), 0)] + [(done, here, -1) for done, here, _ in low[1:]]
        self.assertTrue(holds(APART, 0, (1, 0), 0, negative))
        self.assertFalse(holds(APART, 0, (1, 0), 1, negative))

    def test_a_row_left_out(self):
        for many, z, body in LAYERS:
            told = table(body, z, (1, 2))
            for at in range(len(told)) if many <= 6 else range(0, len(told), 40):
                self.assertIs(holds(body, z, (1, 2), 0, exchanged(told, at)), False)

    def test_a_row_told_twice(self):
        for many, z, body in LAYERS:
            told = table(body, z, (1, 2))
            way, _ = best_order(body, z, (1, 2))
            for at in range(0, len(told), 1 + len(told) // 30):
                done, here, number = told[at]
                for again in (number, number - 1, number + 1):
                    for wrong in (told + [(done, here, again)], [(done, here, again)] + told):
                        self.assertIs(holds(body, z, (1, 2), way, wrong), False)
                        self.assertIs(holds(body, z, (1, 2), 0, wrong), False)

    def test_a_number_one_more(self):
        # Each number that is told is the greatest one that can be shown there.
        for at, (done, here, number) in enumerate(APART_TABLE):
            told = exchanged(APART_TABLE, at, (done, here, number + 1))
            self.assertIs(holds(APART, 0, (1, 0), 0, told), False)

    def test_a_number_one_less(self):
        for at, much in ((0, 3), (1, None), (2, 4), (3, 4), (4, None)):
            done, here, number = APART_TABLE[at]
            told = exchanged(APART_TABLE, at, (done, here, number - 1))
            for tried in range(6):
                wanted = reference.table_shows(runs_of(APART, 0), (1, 0), tried, told)
                self.assertIs(holds(APART, 0, (1, 0), tried, told), wanted)

    def test_the_row_of_the_start(self):
        for many, z, body in LAYERS[1:]:
            way, _ = best_order(body, z, (0, 3))
            told = table(body, z, (0, 3))
            at = told.index(((), (0, 3), way))
            for much in (0, way):
                self.assertIs(holds(body, z, (0, 3), much, exchanged(told, at)), False)
            if way > 0:
                smaller = exchanged(told, at, ((), (0, 3), way - 1))
                self.assertIs(holds(body, z, (0, 3), way, smaller), False)
                self.assertIs(holds(body, z, (0, 3), way - 1, smaller), True)
            below = exchanged(told, at, ((), (0, 3), -1))
            self.assertIs(holds(body, z, (0, 3), 0, below), False)

    def test_the_start_of_another_place(self):
        for many, z, body in LAYERS:
            told = table(body, z, (0, 3))
            for place in STARTS:
                self.assertIs(holds(body, z, place, 0, told), False)

    def test_a_row_that_no_order_comes_to_must_hold_too(self):
        for many, z, body in LAYERS:
            way, _ = best_order(body, z, (0, 0))
            told = table(body, z, (0, 0))
            other, _ = best_order(body, z, (3, 3))
            for number in (-3, 0, other):
                self.assertIs(holds(body, z, (0, 0), way, told + [((), (3, 3), number)]), True)
            for number in (other + 1, 10 ** 30):
                self.assertIs(holds(body, z, (0, 0), way, told + [((), (3, 3), number)]), False)
                self.assertIs(holds(body, z, (0, 0), 0, [((), (3, 3), number)] + told), False)
            if many:
                done = tuple(range(many))
                free = next(place for place in PLACES if (done, place, 0) not in told)
                for number in (-5, 0, 1, 2):
                    wanted = number <= 0
                    self.assertIs(holds(body, z, (0, 0), way, told + [(done, free, number)]), wanted)
        # Nothing that follows from the row stands in the table.
        lone = APART_TABLE + [((0,), (2, 0), 0)]
        self.assertTrue(holds(APART, 0, (1, 0), 4, lone))
        self.assertFalse(holds(APART, 0, (1, 0), 4, exchanged(lone, 3)))

    def test_all_strokes_done(self):
        for at, here in ((3, (0, 0)), (4, (3, 0))):
            told = exchanged(APART_TABLE, at, ((0, 1), here, 1))
            self.assertIs(holds(APART, 0, (1, 0), 4, told), False)
            self.assertIs(holds(APART, 0, (1, 0), 0, told), False)
        self.assertFalse(holds(EMPTY, 0, (1, 1), 0, [((), (1, 1), 1)]))
        self.assertFalse(holds(EMPTY, 0, (1, 1), 1, [((), (1, 1), 1)]))

    def test_no_stroke(self):
        for place in PLACES:
            right = [((), place, 0)]
            self.assertIs(holds(EMPTY, 2, place, 0, right), True)
            self.assertIs(holds(EMPTY, 2, place, 1, right), False)
            self.assertIs(holds(EMPTY, 2, place, 0, right + [((), (place[0], 3 - place[1]), 0)]), True)
            for wrong in ([((), place, 1)], [((), place, -1)], right * 2, right + [((0,), place, 0)]):
                self.assertIs(holds(EMPTY, 2, place, 0, wrong), False)

    def test_the_empty_table(self):
        for many, z, body in LAYERS:
            for much in (0, 1, 5):
                self.assertIs(holds(body, z, (0, 0), much, []), False)

    def test_a_place_that_is_none_shows_nothing(self):
        for many, z, body in LAYERS:
            told = table(body, z, (1, 0))
            way, _ = best_order(body, z, (1, 0))
            every = tuple(range(many))
            for place in ((-1, 0), (0, -1), (4, 0), (0, 4), (3, 4), (-1, 4), (10 ** 30, 0)):
                for row in (((), place, -20), (every, place, 0), (every, place, -20)):
                    self.assertIs(holds(body, z, (1, 0), way, told + [row]), False)
                    self.assertIs(holds(body, z, (1, 0), 0, [row] + told), False)

    def test_a_done_that_is_none_shows_nothing(self):
        for many, z, body in LAYERS:
            told = table(body, z, (1, 0))
            way, _ = best_order(body, z, (1, 0))
            every = tuple(range(many))
            wrong = [(many,), (-1,), every + (many,), (-1,) + every, (10 ** 30,), (0,) * max(many, 2)]
            if many >= 2:
                wrong += [every[::-1], (1, 0), (0, 0), (0, 1, 1), every[:-1] + every[-2:-1], every[1:] + every[:1]]
            for done in wrong:
                for number in (0, -20):
                    row = (done, (2, 2), number)
                    self.assertIs(holds(body, z, (1, 0), way, told + [row]), False, done)
                    self.assertIs(holds(body, z, (1, 0), 0, [row] + told), False, done)

    def test_a_wrong_row_shows_nothing_wherever_it_stands(self):
        for row in (((1, 0), (0, 0), 0), ((0, 1), (0, 4), 0), ((0, 1), (0, 0), 0)):
            for at in range(len(APART_TABLE) + 1):
                told = APART_TABLE[:at] + [row] + APART_TABLE[at:]
                self.assertIs(holds(APART, 0, (1, 0), 0, told), False)

    def test_tables_told_otherwise(self):
        for many, z, body in SMALL:
            runs = runs_of(body, z)
            for place in STARTS[:2]:
                way, _ = best_order(body, z, place)
                for told in told_otherwise(table(body, z, place)):
                    for much in (0, max(0, way - 1), way):
                        wanted = reference.table_shows(runs, place, much, told)
                        self.assertIs(holds(body, z, place, much, told), wanted, told)

    def test_larger_tables_told_otherwise(self):
        rng = random.Random(53)
        for many, z, body in LAYERS:
            if many >= 6:
                runs = runs_of(body, z)
                way, _ = best_order(body, z, (3, 0))
                right = table(body, z, (3, 0))
                some = sorted(rng.sample(range(len(right)), 12))
                for at in some:
                    done, here, number = right[at]
                    for row in ((done, here, number + 1), (done, here, number - 1), (done, (3, 3), number)):
                        told = exchanged(right, at, row)
                        for much in (0, way):
                            wanted = reference.table_shows(runs, (3, 0), much, told)
                            self.assertIs(holds(body, z, (3, 0), much, told), wanted)

    def test_the_table_of_another_layer(self):
        body = as_body(drawn_layer(0, "#..#") + drawn_layer(1, "####") + drawn_layer(2, "#..#"))
        told = table(body, 0, (1, 0))
        self.assertEqual([holds(body, z, (1, 0), 4, told) for z in range(4)], [True, False, True, False])


class Refused(unittest.TestCase):
    def both_refused(self, wanted, body, z, place):
        assert_refused(self, wanted, table, body, z, place)
        for told in ([], APART_TABLE, [((9,), (9, 9), 9)]):
            for much in (0, 4):
                assert_refused(self, wanted, holds, body, z, place, much, told)

    def test_no_layer(self):
        for z in FAR_NUMBERS:
            for body in (EMPTY, DOT, FULL):
                self.both_refused(NoLayer, body, z, (0, 0))

    def test_bad_place(self):
        for place in BAD_PLACES:
            for body, z in product((EMPTY, DOT, FULL), (0, 3)):
                self.both_refused(BadPlace, body, z, place)

    def test_no_layer_is_ahead_of_bad_place(self):
        for z in FAR_NUMBERS:
            for place in BAD_PLACES[::3]:
                self.both_refused(NoLayer, DOT, z, place)

    def test_a_refused_body_is_ahead_of_both(self):
        for body, wanted in ((NO_BODY, NoBody), (OUTSIDE, Outside)):
            for z in (0, 4, -1):
                for place in ((0, 0), (4, 0), (0, -1)):
                    self.both_refused(wanted, body, z, place)

    def test_each_layer_and_each_place_is_one(self):
        for z, place in product(range(4), PLACES):
            self.assertTrue(holds(FULL, z, place, 3, table(FULL, z, place)))


class HandedIn(unittest.TestCase):
    def test_the_table_stands_as_it_was(self):
        for many, z, body in LAYERS:
            right = table(body, z, (2, 0))
            for told in (right, right[::-1], right[1:], right * 2, [((1, 0), (0, 0), 0)] + right):
                before = copy.deepcopy(told)
                for much in (0, best_order(body, z, (2, 0))[0], 50):
                    holds(body, z, (2, 0), much, told)
                self.assertEqual(told, before)
                for place, layer in (((2, 4), z), ((2, 0), 4)):
                    self.assertRaises(ValueError, holds, body, layer, place, 0, told)
                self.assertEqual(told, before)

    def test_the_table_may_be_changed_later(self):
        for many, z, body in LAYERS:
            told = table(body, z, (2, 0))
            kept = list(told)
            self.assertTrue(holds(body, z, (2, 0), 0, told))
            told.append(told[0])
            self.assertFalse(holds(body, z, (2, 0), 0, told))
            self.assertTrue(holds(body, z, (2, 0), 0, kept))
            told.clear()
            self.assertFalse(holds(body, z, (2, 0), 0, told))
            told.extend(kept)
            self.assertTrue(holds(body, z, (2, 0), 0, told))


if __name__ == "__main__":
    unittest.main()
