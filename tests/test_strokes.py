import random
import time
import unittest
from itertools import product

import reference
from layerprint.errors import BadPlace, NoBody, NoLayer, Outside
from layerprint.strokes import best_order, printed, strokes
from samples import (
    BAD_PLACES, DOT, EMPTY, FAR_NUMBERS, FULL, NO_BODY, OUTSIDE, PLACES, as_body, assert_refused, drawn_layer,
    many_cells,
)

CORNERS = [(0, 0), (3, 0), (0, 3), (3, 3)]
SIX = drawn_layer(0, "##.#", ".##.", "#.##", "#...")
SEVEN = drawn_layer(0, "#.##", "#..#", ".##.", "##.#")
EIGHT = drawn_layer(0, "#.#.", ".#.#", "#.##", "##.#")
# In each layer eight strokes, some of one cell and some of two: the most that there can be.
MOST = as_body([
    *drawn_layer(0, "#.#.", ".#.#", "#.##", "##.#"),
    *drawn_layer(1, "#..#", "##.#", "#.##", ".#.#"),
    *drawn_layer(2, "#.##", "#.##", "#.##", "#.##"),
    *drawn_layer(3, "##.#", "#.#.", "#..#", "#.##"),
])
SAMPLES = many_cells(41, 40)


def runs_of(body):
    """The runs of each layer, from the lowest up to the highest one with a cell."""
    found = reference.held(body)
    highest = max((cell[2] for cell in found), default=-1)
    return [reference.runs(found, z) for z in range(highest + 1)]


def sparse_cells(rng):
    """Cells, with at most two strokes in a layer, in some none."""
    listed = []
    for z in range(rng.randint(1, 4)):
        for y in rng.sample(range(4), rng.randint(0, 2)):
            first = rng.randint(0, 3)
            listed += [(x, y, z) for x in range(first, rng.randint(first, 3) + 1)]
    return listed


class Strokes(unittest.TestCase):
    def test_empty_and_full(self):
        for z in range(4):
            self.assertEqual(strokes(EMPTY, z), [])
            self.assertEqual(strokes(FULL, z), [(y, 0, 3) for y in range(4)])
        self.assertEqual([strokes(DOT, z) for z in range(4)], [[(0, 0, 0)], [], [], []])

    def test_one_run_in_a_row(self):
        for first in range(4):
            for last in range(first, 4):
                for y, z in product(range(4), repeat=2):
                    body = as_body([(x, y, z) for x in range(first, last + 1)])
                    self.assertEqual(strokes(body, z), [(y, first, last)])

    def test_several_runs_in_a_row(self):
        for row, wanted in (
            ("#.#.", [(0, 0), (2, 2)]),
            (".#.#", [(1, 1), (3, 3)]),
            ("#..#", [(0, 0), (3, 3)]),
            ("##.#", [(0, 1), (3, 3)]),
            ("#.##", [(0, 0), (2, 3)]),
        ):
            for y in range(4):
                body = as_body(drawn_layer(2, *["...."] * y, row))
                self.assertEqual(strokes(body, 2), [(y, first, last) for first, last in wanted])

    def test_by_y_and_then_by_x(self):
        body = as_body(drawn_layer(1, "..##", "#.#.", "....", "##.#"))
        self.assertEqual(strokes(body, 1), [(0, 2, 3), (1, 0, 0), (1, 2, 2), (3, 0, 1), (3, 3, 3)])
        column = as_body([(1, y, 0) for y in range(4)])
        self.assertEqual(strokes(column, 0), [(y, 1, 1) for y in range(4)])

    def test_a_run_ends_at_the_end_of_a_row(self):
        body = as_body(drawn_layer(0, "..##", "##..", "...#", "#..."))
        self.assertEqual(strokes(body, 0), [(0, 2, 3), (1, 0, 1), (2, 3, 3), (3, 0, 0)])

    def test_of_the_layer_alone(self):
        body = as_body(drawn_layer(0, "#...") + drawn_layer(1, ".#..") + drawn_layer(3, "####"))
        self.assertEqual([strokes(body, z) for z in range(4)], [[(0, 0, 0)], [(0, 1, 1)], [], [(0, 0, 3)]])

    def test_the_most(self):
        for z in range(4):
            self.assertEqual(len(strokes(MOST, z)), 8)

    def test_against_every_tuple(self):
        for listed in SAMPLES:
            for z in range(4):
                self.assertEqual(strokes(as_body(listed), z), reference.runs(set(listed), z))


class BestOrder(unittest.TestCase):
    def test_no_stroke(self):
        for place in PLACES:
            self.assertEqual(best_order(EMPTY, 0, place), (0, []))
            self.assertEqual(best_order(DOT, 1, place), (0, []))
            self.assertEqual(best_order(DOT, 3, place), (0, []))

    def test_one_stroke(self):
        body = as_body(drawn_layer(2, "....", ".###"))
        self.assertEqual(best_order(body, 2, (1, 1)), (0, [(0, 0)]))
        self.assertEqual(best_order(body, 2, (3, 1)), (0, [(0, 1)]))
        self.assertEqual(best_order(body, 2, (0, 0)), (2, [(0, 0)]))
        self.assertEqual(best_order(body, 2, (3, 3)), (2, [(0, 1)]))
        # From the middle both ways are as good.
        self.assertEqual(best_order(body, 2, (2, 1)), (1, [(0, 0)]))
        self.assertEqual(best_order(body, 2, (2, 3)), (3, [(0, 0)]))

    def test_one_cell_is_drawn_forward(self):
        for x, y, z in ((0, 0, 0), (2, 1, 3), (3, 3, 1)):
            for place in PLACES:
                told = best_order(as_body([(x, y, z)]), z, place)
                self.assertEqual(told, (abs(place[0] - x) + abs(place[1] - y), [(0, 0)]))

    def test_two_strokes(self):
        body = as_body(drawn_layer(0, "####", "####"))
        self.assertEqual(best_order(body, 0, (0, 0)), (1, [(0, 0), (1, 1)]))
        self.assertEqual(best_order(body, 0, (3, 0)), (1, [(0, 1), (1, 0)]))
        self.assertEqual(best_order(body, 0, (0, 1)), (1, [(1, 0), (0, 1)]))
        self.assertEqual(best_order(body, 0, (3, 3)), (3, [(1, 1), (0, 0)]))
        apart = as_body(drawn_layer(0, "#..#"))
        self.assertEqual(best_order(apart, 0, (1, 0)), (4, [(0, 0), (1, 0)]))
        self.assertEqual(best_order(apart, 0, (2, 0)), (4, [(1, 0), (0, 0)]))

    def test_the_nearest_stroke_is_not_always_the_first(self):
        # The near one in the middle is drawn on the way back.
        body = as_body(drawn_layer(0, "#.##"))
        self.assertEqual(best_order(body, 0, (1, 0)), (3, [(0, 0), (1, 0)]))
        nearest = as_body(drawn_layer(0, "#..#", "....", "#..."))
        self.assertEqual(best_order(nearest, 0, (1, 0)), (7, [(1, 0), (0, 0), (2, 0)]))

    def test_snake(self):
        self.assertEqual(best_order(FULL, 3, (0, 0)), (3, [(0, 0), (1, 1), (2, 0), (3, 1)]))
        self.assertEqual(best_order(FULL, 0, (3, 3)), (3, [(3, 1), (2, 0), (1, 1), (0, 0)]))

    def test_against_all_orders(self):
        several = 0
        for at, listed in enumerate(SAMPLES):
            for z in range(4):
                told = reference.runs(set(listed), z)
                if 0 < len(told) <= 4:
                    several += 1
                    for place in (PLACES[at % 16], PLACES[(at * 7 + 5 * z) % 16]):
                        far, (order,) = reference.best_orders([told], place)
                        self.assertEqual(best_order(as_body(listed), z, place), (far, order))
        self.assertGreater(several, 40)

    def test_every_place_against_all_orders(self):
        for rows in (("#.#.", ".#.#"), ("##..", "..##", "#..#"), ("#...", ".##.", "...#"), (".#..", ".#..", ".#..")):
            body = as_body(drawn_layer(1, *rows))
            for place in PLACES:
                far, (order,) = reference.best_orders([strokes(body, 1)], place)
                self.assertEqual(best_order(body, 1, place), (far, order))

    def test_six_seven_and_eight_strokes(self):
        for listed, many in ((SIX, 6), (SEVEN, 7), (EIGHT, 8)):
            body = as_body(listed)
            told = strokes(body, 0)
            self.assertEqual(len(told), many)
            for place in PLACES if many == 6 else CORNERS:
                far, order = best_order(body, 0, place)
                self.assertTrue(reference.is_best([told], place, far, [order]), (place, far, order))

    def test_of_the_layer_alone(self):
        body = as_body(drawn_layer(0, "#..#", "#..#") + drawn_layer(1, "..##") + drawn_layer(2, "#.#."))
        for z in range(3):
            alone = as_body([cell for cell in reference.held(body) if cell[2] == z])
            for place in CORNERS:
                self.assertEqual(best_order(body, z, place), best_order(alone, z, place))


class Printed(unittest.TestCase):
    def test_a_body_without_cells(self):
        for body in (EMPTY, ("less", FULL, FULL)):
            for place in PLACES:
                self.assertEqual(printed(body, place), (0, []))

    def test_one_layer(self):
        for rows in (("#.#.", ".#.#"), ("####", "####", "####", "####"), ("#...",)):
            body = as_body(drawn_layer(0, *rows))
            for place in PLACES:
                far, order = best_order(body, 0, place)
                self.assertEqual(printed(body, place), (far, [order]))

    def test_up_to_the_highest_layer(self):
        body = as_body([(1, 1, 0), (1, 1, 1), (1, 1, 2)])
        self.assertEqual(printed(body, (1, 1)), (0, [[(0, 0)]] * 3))
        self.assertEqual(printed(DOT, (2, 0)), (2, [[(0, 0)]]))

    def test_all_four_layers(self):
        far, orders = printed(FULL, (0, 0))
        self.assertEqual(far, 12)
        snake, back = [(0, 0), (1, 1), (2, 0), (3, 1)], [(3, 0), (2, 1), (1, 0), (0, 1)]
        self.assertEqual(orders, [snake, back, snake, back])

    def test_empty_layers_below_filled_ones(self):
        self.assertEqual(printed(as_body([(2, 3, 1)]), (0, 0)), (5, [[], [(0, 0)]]))
        self.assertEqual(printed(as_body([(2, 3, 3)]), (2, 2)), (1, [[], [], [], [(0, 0)]]))
        body = as_body([(0, 0, 0), (3, 0, 2)])
        self.assertEqual(printed(body, (1, 0)), (4, [[(0, 0)], [], [(0, 0)]]))

    def test_the_head_goes_on_where_it_was(self):
        body = as_body(drawn_layer(0, "####") + drawn_layer(1, "...#", "...#"))
        self.assertEqual(printed(body, (0, 0)), (1, [[(0, 0)], [(0, 0), (1, 0)]]))

    def test_the_best_of_each_layer_alone_is_not_the_best_together(self):
        body = as_body(drawn_layer(0, "####") + drawn_layer(1, "#..."))
        self.assertEqual(best_order(body, 0, (1, 0)), (1, [(0, 0)]))
        self.assertEqual(best_order(body, 1, (3, 0)), (3, [(0, 0)]))
        self.assertEqual(printed(body, (1, 0)), (2, [[(0, 1)], [(0, 0)]]))
        # Here an empty layer stands between the two.
        higher = as_body(drawn_layer(0, "####") + drawn_layer(2, "#..."))
        self.assertEqual(printed(higher, (1, 0)), (2, [[(0, 1)], [], [(0, 0)]]))

    def test_several_as_good_lists_of_orders(self):
        body = as_body(drawn_layer(0, ".###") + drawn_layer(1, "....", "....", ".###"))
        self.assertEqual(printed(body, (2, 0)), (3, [[(0, 0)], [(0, 1)]]))
        self.assertEqual(printed(body, (3, 0)), (2, [[(0, 1)], [(0, 0)]]))
        self.assertEqual(printed(as_body([(1, 1, 0), (1, 1, 1)]), (3, 3)), (4, [[(0, 0)], [(0, 0)]]))

    def test_against_all_lists_of_orders(self):
        rng = random.Random(42)
        for _ in range(30):
            body = as_body(sparse_cells(rng))
            layers = runs_of(body)
            for place in rng.sample(PLACES, 2):
                self.assertEqual(printed(body, place), reference.best_orders(layers, place))

    def test_filled_bodies(self):
        for at, listed in enumerate(SAMPLES[:12]):
            body, place = as_body(listed), PLACES[at]
            far, orders = printed(body, place)
            self.assertTrue(reference.is_best(runs_of(body), place, far, orders), (place, far, orders))

    def test_eight_strokes_in_each_layer(self):
        for place in ((0, 0), (2, 1)):
            far, orders = printed(MOST, place)
            self.assertTrue(reference.is_best(runs_of(MOST), place, far, orders), (place, far, orders))

    def test_well_under_a_second(self):
        begun = time.process_time()
        printed(MOST, (1, 2))
        self.assertLess(time.process_time() - begun, 1)


class Refused(unittest.TestCase):
    def test_no_layer(self):
        for z in FAR_NUMBERS:
            for body in (EMPTY, DOT, FULL):
                assert_refused(self, NoLayer, strokes, body, z)
                assert_refused(self, NoLayer, best_order, body, z, (0, 0))

    def test_bad_place(self):
        for place in BAD_PLACES:
            for body in (EMPTY, DOT, FULL):
                assert_refused(self, BadPlace, printed, body, place)
                for z in range(4):
                    assert_refused(self, BadPlace, best_order, body, z, place)

    def test_no_layer_is_ahead_of_bad_place(self):
        for z in FAR_NUMBERS:
            for place in BAD_PLACES:
                assert_refused(self, NoLayer, best_order, DOT, z, place)

    def test_a_refused_body_is_ahead_of_both(self):
        for body, wanted in ((NO_BODY, NoBody), (OUTSIDE, Outside)):
            for place in ((0, 0), (4, 0), (0, -1)):
                assert_refused(self, wanted, printed, body, place)
                for z in (0, 4, -1):
                    assert_refused(self, wanted, strokes, body, z)
                    assert_refused(self, wanted, best_order, body, z, place)

    def test_each_place_in_the_room_is_one(self):
        for place in PLACES:
            self.assertEqual(best_order(DOT, 0, place)[0], sum(place))
            self.assertEqual(printed(DOT, place)[0], sum(place))


class Told(unittest.TestCase):
    def test_kinds_of_values(self):
        body = as_body([*drawn_layer(0, "#.##"), *drawn_layer(2, "##..")])
        told = strokes(body, 0)
        self.assertIsInstance(told, list)
        self.assertTrue(all(isinstance(run, tuple) for run in told))
        for way, order in (best_order(body, 0, (1, 1)), best_order(body, 1, (1, 1))):
            self.assertIs(way.__class__, int)
            self.assertIsInstance(order, list)
            self.assertTrue(all(isinstance(stroke, tuple) for stroke in order))
        self.assertIsInstance(best_order(body, 0, (1, 1)), tuple)
        self.assertIsInstance(printed(body, (1, 1)), tuple)
        way, orders = printed(body, (1, 1))
        self.assertIs(way.__class__, int)
        self.assertIsInstance(orders, list)
        self.assertEqual([order.__class__ for order in orders], [list] * 3)
        self.assertTrue(all(isinstance(stroke, tuple) for order in orders for stroke in order))

    def test_told_lists_may_be_changed(self):
        for body in (EMPTY, DOT, FULL, MOST, as_body(SIX)):
            wanted = list(strokes(body, 0))
            strokes(body, 0).append((9, 9, 9))
            strokes(body, 0).clear()
            self.assertEqual(strokes(body, 0), wanted)
            way, order = best_order(body, 0, (2, 2))
            kept = list(order)
            order.append((9, 9))
            best_order(body, 0, (2, 2))[1].clear()
            self.assertEqual(best_order(body, 0, (2, 2)), (way, kept))

    def test_inner_lists_may_be_changed(self):
        for body in (DOT, FULL, as_body(SIX + [(1, 1, 3)])):
            way, orders = printed(body, (2, 2))
            kept = [list(order) for order in orders]
            for order in orders:
                order.append((9, 9))
            # Empty orders, too, are lists of their own each.
            self.assertEqual(orders, [order + [(9, 9)] for order in kept])
            orders.reverse()
            orders.append([])
            self.assertEqual(printed(body, (2, 2)), (way, kept))
            for order in printed(body, (2, 2))[1]:
                order.clear()
            self.assertEqual(printed(body, (2, 2)), (way, kept))
        printed(EMPTY, (0, 0))[1].append([(0, 0)])
        self.assertEqual(printed(EMPTY, (0, 0)), (0, []))

    def test_what_was_asked_before_makes_no_difference(self):
        for place in PLACES:
            best_order(as_body(SIX), 0, place)
        self.assertEqual(best_order(FULL, 0, (0, 0)), (3, [(0, 0), (1, 1), (2, 0), (3, 1)]))
        self.assertEqual(printed(FULL, (0, 0))[0], 12)


if __name__ == "__main__":
    unittest.main()
