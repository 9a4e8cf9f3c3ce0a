import random
import unittest

import reference
from layerprint.errors import BadReach, NoBody, NoProp, Outside
from layerprint.hanging import filled, hanging
from samples import (
    BAD_REACHES, DOT, EMPTY, FULL, NO_BODY, OUTSIDE, ROOM, as_body, assert_refused, drawn_layer, many_cells,
)

# A post at the corner, and a row of four on top of it.
GALLOWS = as_body([(0, 0, 0), (0, 0, 1), (1, 0, 1), (2, 0, 1), (3, 0, 1)])
# A floor over nothing, with a cell of its own over the ground further down.
SHELF = as_body([(0, 0, 0), (0, 0, 3), (1, 0, 3), (2, 0, 1), (2, 0, 3)])
BRIDGE = as_body(drawn_layer(0, "#..#") + drawn_layer(1, "####"))


class Carried(unittest.TestCase):
    def test_nothing_hangs_where_all_are_carried(self):
        for body in (EMPTY, FULL, DOT, as_body([(2, 3, z) for z in range(4)]), ("block", (0, 1, 0), (4, 3, 2))):
            for reach in (0, 1, 2):
                self.assertEqual(hanging(body, [], reach), [])

    def test_all_of_the_lowest_layer_are_carried(self):
        for cell in ROOM:
            told = hanging(as_body([cell]), [], 0)
            self.assertEqual(told, [(cell, None)] if cell[2] else [])

    def test_the_cell_beneath_is_the_bodys(self):
        for x, y, z in ROOM:
            if z:
                self.assertNotIn(((x, y, z), None), hanging(as_body([(x, y, z - 1), (x, y, z)]), [], 0))

    def test_a_cell_further_down_carries_nothing(self):
        for reach in (0, 1, 2):
            self.assertEqual(hanging(as_body([(1, 1, 0), (1, 1, 2)]), [], reach), [((1, 1, 2), None)])
            self.assertEqual(hanging(as_body([(1, 1, 0), (1, 1, 3)]), [], reach), [((1, 1, 3), None)])

    def test_a_cell_above_carries_nothing(self):
        body = as_body([(1, 1, 1), (1, 1, 2)])
        self.assertEqual(hanging(body, [], 2), [((1, 1, 1), None)])

    def test_a_hanging_cell_carries_what_is_on_it(self):
        body = as_body([(0, 0, 1), (0, 0, 2), (1, 0, 2)])
        self.assertEqual(hanging(body, [], 0), [((0, 0, 1), None), ((1, 0, 2), 1)])


class Ways(unittest.TestCase):
    def test_one_two_and_three_away(self):
        ones = [((1, 0, 1), 1), ((2, 0, 1), 2), ((3, 0, 1), 3)]
        self.assertEqual(hanging(GALLOWS, [], 0), ones)
        self.assertEqual(hanging(GALLOWS, [], 1), ones[1:])
        self.assertEqual(hanging(GALLOWS, [], 2), ones[2:])

    def test_along_y(self):
        body = as_body([(2, 1, 0), (2, 1, 1), (2, 0, 1), (2, 2, 1), (2, 3, 1)])
        self.assertEqual(hanging(body, [], 0), [((2, 0, 1), 1), ((2, 2, 1), 1), ((2, 3, 1), 2)])
        self.assertEqual(hanging(body, [], 1), [((2, 3, 1), 2)])
        self.assertEqual(hanging(body, [], 2), [])

    def test_back_along_x(self):
        body = as_body([(3, 3, 0), (3, 3, 1), (2, 3, 1), (1, 3, 1)])
        self.assertEqual(hanging(body, [], 0), [((1, 3, 1), 2), ((2, 3, 1), 1)])

    def test_around_a_corner(self):
        body = as_body([(0, 0, 0), (0, 0, 1), (1, 0, 1), (1, 1, 1), (1, 2, 1)])
        self.assertEqual(hanging(body, [], 0), [((1, 0, 1), 1), ((1, 1, 1), 2), ((1, 2, 1), 3)])
        self.assertEqual(hanging(body, [], 2), [((1, 2, 1), 3)])

    def test_not_across_a_corner(self):
        body = as_body([(0, 0, 0), (0, 0, 1), (1, 1, 1)])
        self.assertEqual(hanging(body, [], 2), [((1, 1, 1), None)])

    def test_behind_a_gap(self):
        body = as_body([(0, 0, 0), (0, 0, 1), (2, 0, 1), (3, 0, 1)])
        for reach in (0, 1, 2):
            self.assertEqual(hanging(body, [], reach), [((2, 0, 1), None), ((3, 0, 1), None)])

    def test_around_a_gap(self):
        body = as_body(drawn_layer(0, "#...") + drawn_layer(1, "#.##", "####"))
        wanted = [((2, 0, 1), 4), ((2, 1, 1), 3), ((3, 0, 1), 5), ((3, 1, 1), 4)]
        self.assertEqual(hanging(body, [], 2), wanted)

    def test_the_nearest_of_several_carried_ones(self):
        self.assertEqual(hanging(BRIDGE, [], 0), [((1, 0, 1), 1), ((2, 0, 1), 1)])
        body = as_body(drawn_layer(0, "#...", "....", "....", "..#.") + drawn_layer(1, "###.", "..#.", "..#.", "..#."))
        wanted = [((1, 0, 1), 1), ((2, 0, 1), 2), ((2, 1, 1), 2), ((2, 2, 1), 1)]
        self.assertEqual(hanging(body, [], 0), wanted)

    def test_a_row_does_not_go_on_in_the_next_one(self):
        body = as_body(drawn_layer(0, "...#") + drawn_layer(1, "...#", "#..."))
        self.assertEqual(hanging(body, [], 2), [((0, 1, 1), None)])

    def test_a_piece_without_a_carried_cell(self):
        body = as_body(drawn_layer(0, "#...") + drawn_layer(1, "##..", "....", "..##", "..##"))
        piece = [((x, y, 1), None) for x in (2, 3) for y in (2, 3)]
        self.assertEqual(hanging(body, [], 1), piece)
        self.assertEqual(hanging(body, [], 0), [((1, 0, 1), 1)] + piece)

    def test_no_steps_lead_to_another_layer(self):
        body = as_body([(0, 0, 0), (0, 0, 1), (1, 0, 1), (1, 0, 2), (2, 0, 2), (2, 0, 3), (3, 0, 3)])
        self.assertEqual(hanging(body, [], 0), [((1, 0, 1), 1), ((2, 0, 2), 1), ((3, 0, 3), 1)])
        alone = as_body([(0, 0, 0), (1, 0, 1), (2, 0, 2)])
        self.assertEqual(hanging(alone, [], 2), [((1, 0, 1), None), ((2, 0, 2), None)])

    def test_the_farthest(self):
        snake = as_body(drawn_layer(2, "#...") + drawn_layer(3, "####", "...#", "####", "#..."))
        told = dict(hanging(snake, [], 2))
        self.assertEqual(told[(0, 2, 3)], 8)
        self.assertEqual(told[(0, 3, 3)], 9)

    def test_rising(self):
        for listed in many_cells(3, 20):
            told = [cell for cell, _ in hanging(as_body(listed), [], 0)]
            self.assertEqual(told, sorted(told))


class WithProps(unittest.TestCase):
    def test_a_prop_carries_its_cell(self):
        self.assertEqual(hanging(GALLOWS, [(3, 0, 1)], 0), [((1, 0, 1), 1), ((2, 0, 1), 1)])
        self.assertEqual(hanging(GALLOWS, [(3, 0, 1)], 1), [])
        self.assertEqual(hanging(GALLOWS, [(2, 0, 1)], 0), [((1, 0, 1), 1), ((3, 0, 1), 1)])
        self.assertEqual(hanging(GALLOWS, [(1, 0, 1)], 1), [((3, 0, 1), 2)])

    def test_several_props(self):
        self.assertEqual(hanging(GALLOWS, [(3, 0, 1), (1, 0, 1)], 0), [((2, 0, 1), 1)])
        self.assertEqual(hanging(GALLOWS, [(2, 0, 1), (1, 0, 1), (3, 0, 1)], 0), [])

    def test_a_prop_under_a_piece_without_a_carried_cell(self):
        body = as_body(drawn_layer(1, "###.", "....", "##.."))
        self.assertEqual(hanging(body, [(1, 0, 1)], 1), [((0, 2, 1), None), ((1, 2, 1), None)])
        self.assertEqual(hanging(body, [(1, 0, 1), (0, 2, 1)], 1), [])
        self.assertEqual(hanging(body, [(0, 0, 1), (1, 2, 1)], 1), [((2, 0, 1), 2)])

    def test_a_prop_carries_in_its_layer_only(self):
        # The prop goes down beside the cells of layer 1, and under none of them.
        body = as_body([(0, 0, 1), (1, 0, 1), (2, 0, 3)])
        self.assertEqual(hanging(body, [(2, 0, 3)], 2), [((0, 0, 1), None), ((1, 0, 1), None)])
        # It stands on the lower cell, which hangs on.
        body = as_body([(0, 0, 1), (0, 0, 3)])
        self.assertEqual(hanging(body, [(0, 0, 3)], 2), [((0, 0, 1), None)])
        self.assertEqual(hanging(body, [(0, 0, 1)], 2), [((0, 0, 3), None)])

    def test_the_same_body_without_them(self):
        for props in ([(3, 0, 1)], [(2, 0, 1)], [(1, 0, 1), (3, 0, 1)]):
            hanging(GALLOWS, props, 0)
            self.assertEqual(hanging(GALLOWS, [], 0), [((1, 0, 1), 1), ((2, 0, 1), 2), ((3, 0, 1), 3)])

    def test_in_any_order(self):
        props = [(3, 0, 1), (1, 0, 1), (2, 0, 1)]
        self.assertEqual(hanging(GALLOWS, props[:2], 0), hanging(GALLOWS, props[1::-1], 0))
        self.assertEqual(filled(GALLOWS, props), filled(GALLOWS, props[::-1]))

    def test_against_the_plain_reference(self):
        rng = random.Random(21)
        for listed in many_cells(22, 60):
            body, found = as_body(listed), set(listed)
            under = [cell for cell in listed if reference.can_prop(found, cell)]
            for many in (0, 1, 3, len(under)):
                props = rng.sample(under, min(many, len(under)))
                self.assertEqual(filled(body, props), reference.fill(found, props))
                for reach in (0, 1, 2):
                    self.assertEqual(hanging(body, props, reach), reference.hanging(found, props, reach))


class Filled(unittest.TestCase):
    def test_none(self):
        for body in (EMPTY, FULL, SHELF, GALLOWS):
            self.assertEqual(filled(body, []), 0)

    def test_down_to_the_ground(self):
        for z in (1, 2, 3):
            self.assertEqual(filled(as_body([(1, 2, z)]), [(1, 2, z)]), z)

    def test_down_to_the_next_cell_of_the_body(self):
        self.assertEqual(filled(SHELF, [(0, 0, 3)]), 2)
        self.assertEqual(filled(SHELF, [(1, 0, 3)]), 3)
        self.assertEqual(filled(SHELF, [(2, 0, 3)]), 1)
        self.assertEqual(filled(SHELF, [(2, 0, 1)]), 1)

    def test_one_over_another(self):
        self.assertEqual(filled(SHELF, [(2, 0, 1), (2, 0, 3)]), 2)
        body = as_body([(3, 3, 1), (3, 3, 3)])
        self.assertEqual(filled(body, [(3, 3, 3), (3, 3, 1)]), 2)

    def test_all_together(self):
        self.assertEqual(filled(SHELF, [(2, 0, 3), (0, 0, 3), (2, 0, 1), (1, 0, 3)]), 7)
        plate = ("block", (0, 0, 3), (4, 4, 1))
        self.assertEqual(filled(plate, [cell for cell in ROOM if cell[2] == 3]), 48)


class Refused(unittest.TestCase):
    def refused_prop(self, body, props):
        assert_refused(self, NoProp, filled, body, props)
        for reach in (0, 1, 2):
            assert_refused(self, NoProp, hanging, body, props, reach)

    def test_no_cell_of_the_body(self):
        for cell in ((1, 0, 2), (1, 0, 0), (0, 1, 1), (3, 3, 3), (4, 0, 1), (0, 0, -1), (-1, 0, 1), (9, 9, 9)):
            self.refused_prop(GALLOWS, [cell])
            self.refused_prop(GALLOWS, [(2, 0, 1), cell])
            self.refused_prop(EMPTY, [cell])

    def test_carried_on_the_lowest_layer(self):
        self.refused_prop(GALLOWS, [(0, 0, 0)])
        self.refused_prop(GALLOWS, [(1, 0, 1), (0, 0, 0)])
        self.refused_prop(DOT, [(0, 0, 0)])

    def test_carried_by_a_cell_of_the_body(self):
        self.refused_prop(GALLOWS, [(0, 0, 1)])
        self.refused_prop(GALLOWS, [(0, 0, 1), (1, 0, 1)])
        self.refused_prop(FULL, [(1, 1, 3)])
        self.refused_prop(as_body([(0, 0, 2), (0, 0, 3)]), [(0, 0, 3)])

    def test_a_cell_within_reach_is_not_carried(self):
        self.assertEqual(hanging(GALLOWS, [(1, 0, 1)], 2), [])

    def test_told_twice(self):
        self.refused_prop(GALLOWS, [(1, 0, 1), (1, 0, 1)])
        self.refused_prop(GALLOWS, [(1, 0, 1), (3, 0, 1), (2, 0, 1), (1, 0, 1)])
        self.refused_prop(GALLOWS, [(3, 0, 1), (1, 0, 1), (1, 0, 1)])

    def test_every_cell_that_is_none_for_a_prop(self):
        for listed in many_cells(23, 10):
            for cell in ROOM:
                if not reference.can_prop(set(listed), cell):
                    self.refused_prop(as_body(listed), [cell])

    def test_bad_reach(self):
        for reach in BAD_REACHES:
            for body, props in ((GALLOWS, []), (GALLOWS, [(1, 0, 1)]), (EMPTY, []), (FULL, [])):
                assert_refused(self, BadReach, hanging, body, props, reach)

    def test_no_prop_is_ahead_of_bad_reach(self):
        for reach in BAD_REACHES:
            assert_refused(self, NoProp, hanging, GALLOWS, [(0, 0, 1)], reach)
            assert_refused(self, NoProp, hanging, GALLOWS, [(1, 1, 1)], reach)
            assert_refused(self, NoProp, hanging, GALLOWS, [(1, 0, 1), (1, 0, 1)], reach)

    def test_a_refused_body_is_ahead_of_both(self):
        for body, wanted in ((NO_BODY, NoBody), (OUTSIDE, Outside)):
            for props in ([], [(0, 0, 0)], [(9, 9, 9)]):
                assert_refused(self, wanted, filled, body, props)
                for reach in (0, 3, -1):
                    assert_refused(self, wanted, hanging, body, props, reach)


class Told(unittest.TestCase):
    def test_kinds_of_values(self):
        told = hanging(BRIDGE, [(1, 0, 1)], 0)
        self.assertIsInstance(told, list)
        self.assertIsInstance(told[0], tuple)
        self.assertIsInstance(told[0][0], tuple)
        self.assertIs(hanging(as_body([(0, 0, 1)]), [], 2)[0][1], None)
        self.assertIs(filled(BRIDGE, [(1, 0, 1)]).__class__, int)

    def test_told_lists_may_be_changed(self):
        for props in ([], [(3, 0, 1)], [(3, 0, 1), (1, 0, 1)]):
            wanted = list(hanging(GALLOWS, props, 0))
            hanging(GALLOWS, props, 0).append(((9, 9, 9), 9))
            hanging(GALLOWS, props, 0).clear()
            self.assertEqual(hanging(GALLOWS, props, 0), wanted)
        hanging(FULL, [], 0).append(1)
        self.assertEqual(hanging(FULL, [], 0), [])
        self.assertEqual(hanging(EMPTY, [], 0), [])

    def test_the_props_handed_in_stand_as_they_were(self):
        props = [(3, 0, 1), (1, 0, 1), (2, 0, 1)]
        handed = list(props)
        hanging(GALLOWS, handed, 1)
        filled(GALLOWS, handed)
        self.assertEqual(handed, props)
        for wrong in ([(3, 0, 1), (0, 0, 1), (1, 0, 1)], [(2, 0, 1), (1, 0, 1), (2, 0, 1)]):
            handed = list(wrong)
            self.assertRaises(NoProp, hanging, GALLOWS, handed, 1)
            self.assertRaises(NoProp, filled, GALLOWS, handed)
            self.assertEqual(handed, wrong)

    def test_the_props_handed_in_may_be_changed_later(self):
        props = [(3, 0, 1)]
        told = hanging(GALLOWS, props, 0)
        props.append((1, 0, 1))
        self.assertEqual(told, [((1, 0, 1), 1), ((2, 0, 1), 1)])
        self.assertEqual(hanging(GALLOWS, props, 0), [((2, 0, 1), 1)])
        self.assertEqual(filled(GALLOWS, props), 2)
        props.clear()
        self.assertEqual(hanging(GALLOWS, props, 0), [((1, 0, 1), 1), ((2, 0, 1), 2), ((3, 0, 1), 3)])
        self.assertEqual(filled(GALLOWS, props), 0)
        self.assertEqual(hanging(GALLOWS, [(3, 0, 1)], 0), told)


if __name__ == "__main__":
    unittest.main()
