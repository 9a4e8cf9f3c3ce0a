import copy
import random
import time
import unittest
from itertools import product

import reference
from layerprint.errors import BadReach, NoBody, NoLayer, Outside
from layerprint.props import fewest, shows
from samples import (
    BAD_REACHES, DOT, EMPTY, FAR_NUMBERS, FULL, NO_BODY, OUTSIDE, ROOM, as_body, assert_refused, drawn_layer,
    many_cells,
)

ONE = as_body([(2, 1, 1)])
PAIR = as_body([(0, 0, 2), (2, 0, 2)])
ROW = as_body(drawn_layer(1, "####"))
# The second cell of the row stands over another one, so a prop under it fills less.
OVER = as_body([(1, 0, 1)] + drawn_layer(3, "####"))
CHECKED = as_body(drawn_layer(1, "#.#.", ".#.#", "#.#.", ".#.#"))
PLATE = ("block", (0, 0, 2), (4, 4, 1))
TABLE = as_body(drawn_layer(0, "#...") + drawn_layer(1, "####", "####", "####", "####"))
TOWER = as_body(
    drawn_layer(0, "#...") + drawn_layer(1, "##..", "....", "#.##") + drawn_layer(2, "####", "#...", "####")
    + drawn_layer(3, "...#", "####", "...#", "...#")
)
SAMPLES = [as_body(listed) for listed in many_cells(31, 30)]
ALL = [EMPTY, FULL, DOT, ONE, PAIR, ROW, OVER, CHECKED, PLATE, TABLE, TOWER] + SAMPLES


def found_of(body):
    return reference.held(body)


def without_papers(told):
    return [(z, props) for z, props, _ in told]


def inner_lists(paper):
    """All lists of papers of a paper, however deep within."""
    lists = [paper[1]]
    for inner in paper[1]:
        lists.extend(inner_lists(inner))
    return lists


def deep_chain(many, cell):
    paper = (cell, [])
    for _ in range(many - 1):
        paper = (cell, [paper])
    return paper


def told_otherwise(paper):
    """Papers told otherwise at one place: another cell, one left out, told twice, exchanged, one too many."""
    cell, papers = paper
    for other in ((0, 0, 0), (0, 0, 1), (1, 2, 2), (3, 0, 3), (4, 0, 1), (-1, 9, 9)):
        if other != cell:
            yield (other, papers)
    yield (cell, papers + [(cell, [])])
    for at, inner in enumerate(papers):
        yield (cell, papers[:at] + papers[at + 1:])
        yield (cell, papers[:at] + [inner] + papers[at:])
        for later in range(at + 1, len(papers)):
            swapped = list(papers)
            swapped[at], swapped[later] = papers[later], inner
            yield (cell, swapped)
        for changed in told_otherwise(inner):
            yield (cell, papers[:at] + [changed] + papers[at + 1:])


class Fewest(unittest.TestCase):
    def test_no_prop_is_needed(self):
        for body in (EMPTY, FULL, DOT, ("block", (1, 0, 0), (2, 3, 4)), as_body(drawn_layer(0, "#.#.", ".#.#"))):
            for reach in (0, 1, 2):
                self.assertEqual(fewest(body, reach), [])

    def test_a_layer_within_reach_needs_none(self):
        body = as_body([(0, 0, 0), (0, 0, 1), (1, 0, 1), (2, 0, 1)])
        self.assertEqual(fewest(body, 2), [])
        self.assertEqual(without_papers(fewest(body, 1)), [(1, [(1, 0, 1)])])
        self.assertEqual(without_papers(fewest(body, 0)), [(1, [(1, 0, 1), (2, 0, 1)])])

    def test_one(self):
        for reach in (0, 1, 2):
            self.assertEqual(fewest(ONE, reach), [(1, [(2, 1, 1)], ((2, 1, 1), []))])

    def test_a_piece_each(self):
        for reach in (0, 1, 2):
            (z, props, paper), = fewest(PAIR, reach)
            self.assertEqual((z, props), (2, [(0, 0, 2), (2, 0, 2)]))
            cells = sorted([(paper[0]), paper[1][0][0]])
            self.assertEqual(cells, props)
            self.assertEqual(paper[1][0][1], [])
            self.assertEqual(len(paper[1]), 1)

    def test_a_row_by_each_reach(self):
        row = [(x, 0, 1) for x in range(4)]
        self.assertEqual(without_papers(fewest(ROW, 0)), [(1, row)])
        self.assertEqual(without_papers(fewest(ROW, 1)), [(1, [row[0], row[2]])])
        self.assertEqual(without_papers(fewest(ROW, 2)), [(1, [row[1]])])

    def test_of_as_few_those_that_fill_the_fewest(self):
        short = as_body([(1, 0, 0), (0, 0, 2), (1, 0, 2)])
        self.assertEqual(without_papers(fewest(short, 1)), [(2, [(1, 0, 2)])])
        self.assertEqual(without_papers(fewest(short, 2)), [(2, [(1, 0, 2)])])
        row = [(x, 0, 3) for x in range(4)]
        told = without_papers(fewest(OVER, 1))
        self.assertEqual(told, [(1, [(1, 0, 1)]), (3, [row[1], row[2]])])

    def test_fewer_props_are_ahead_of_less_filled(self):
        # Props under both ends would do as well, and fill 2 cells; the one in the middle fills 3.
        body = as_body([(0, 0, 1), (2, 0, 1)] + drawn_layer(3, "###"))
        self.assertEqual(without_papers(fewest(body, 1))[1:], [(3, [(1, 0, 3)])])

    def test_a_prop_may_stand_under_a_cell_that_does_not_hang(self):
        # The second cell is one step from the first, which is carried; the two others hang.
        body = as_body([(0, 0, 1), (0, 0, 2), (1, 0, 0), (1, 0, 2), (2, 0, 2), (1, 1, 2)])
        self.assertEqual(without_papers(fewest(body, 1)), [(1, [(0, 0, 1)]), (2, [(1, 0, 2)])])

    def test_the_first_as_lists_ascend(self):
        square = as_body(drawn_layer(2, "....", ".##.", ".##."))
        self.assertEqual(without_papers(fewest(square, 2)), [(2, [(1, 1, 2)])])
        self.assertEqual(without_papers(fewest(square, 1)), [(2, [(1, 1, 2), (1, 2, 2)])])
        ring = as_body(drawn_layer(1, "###.", "#.#.", "###."))
        self.assertEqual(without_papers(fewest(ring, 1)), [(1, [(0, 0, 1), (0, 2, 1), (2, 1, 1)])])

    def test_several_layers_rising(self):
        told = without_papers(fewest(TOWER, 0))
        self.assertEqual(
            told,
            [
                (1, [(0, 2, 1), (1, 0, 1), (2, 2, 1), (3, 2, 1)]),
                (2, [(0, 1, 2), (1, 2, 2), (2, 0, 2), (3, 0, 2)]),
                (3, [(1, 1, 3), (2, 1, 3), (3, 1, 3), (3, 3, 3)]),
            ],
        )
        self.assertEqual([z for z, _ in without_papers(fewest(TOWER, 2))], [1])

    def test_the_most_that_a_layer_needs(self):
        every = [cell for cell in ROOM if cell[2] == 2]
        self.assertEqual(without_papers(fewest(PLATE, 0)), [(2, every)])
        self.assertEqual(len(fewest(PLATE, 1)[0][1]), 4)
        self.assertEqual(len(fewest(CHECKED, 2)[0][1]), 8)

    def test_against_every_group_of_cells(self):
        for body in ALL:
            for reach in (0, 1, 2):
                wanted = [(z, reference.best_props(found_of(body), reach, z)) for z in range(4)]
                told = without_papers(fewest(body, reach))
                self.assertEqual(told, [(z, props) for z, props in wanted if props is not None])

    def test_with_them_nothing_hangs(self):
        for body in ALL:
            for reach in (0, 1, 2):
                props = [cell for _, under, _ in fewest(body, reach) for cell in under]
                self.assertEqual(reference.hanging(found_of(body), props, reach), [])

    def test_well_under_a_second(self):
        lace = as_body(drawn_layer(1, "####", "##.#", "#.##", "####") + drawn_layer(3, "####", "####", "####", "####"))
        for body in (PLATE, TABLE, TOWER, CHECKED, lace):
            for reach in (0, 1, 2):
                begun = time.process_time()
                fewest(body, reach)
                self.assertLess(time.process_time() - begun, 1)

    def test_every_layer_of_two_rows_against_every_group(self):
        for signs in range(0, 256, 3):
            row = format(signs, "08b").replace("1", "#").replace("0", ".")
            body = as_body([(0, 0, 0)] + drawn_layer(1, row[:4], row[4:]))
            for reach in (1, 2):
                props = reference.best_props(found_of(body), reach, 1)
                self.assertEqual(without_papers(fewest(body, reach)), [] if props is None else [(1, props)])


class Papers(unittest.TestCase):
    def test_each_paper_shows_that_one_fewer_do_not_do(self):
        for body in ALL:
            for reach in (0, 1, 2):
                for z, props, paper in fewest(body, reach):
                    self.assertIs(shows(body, reach, z, len(props) - 1, paper), True)
                    self.assertTrue(reference.paper_shows(found_of(body), reach, z, len(props) - 1, paper))

    def test_and_of_no_other_number(self):
        for body in ALL:
            for reach in (0, 1, 2):
                for z, props, paper in fewest(body, reach):
                    for many in (*range(len(props) - 1), len(props), len(props) + 1, 30, 10 ** 30):
                        self.assertIs(shows(body, reach, z, many, paper), False)

    def test_of_no_props(self):
        self.assertTrue(shows(ROW, 0, 1, 0, ((2, 0, 1), [])))
        self.assertFalse(shows(ROW, 0, 1, 0, ((2, 0, 1), [((2, 0, 1), [])])))
        self.assertFalse(shows(ROW, 0, 1, 0, ((2, 1, 1), [])))
        for cell in ROOM:
            self.assertIs(shows(ROW, 2, 1, 0, (cell, [])), cell in found_of(ROW))

    def test_of_one_prop(self):
        first, second, third, last = [(x, 0, 1) for x in range(4)]
        self.assertTrue(shows(ROW, 1, 1, 1, (first, [(last, []), (last, [])])))
        self.assertTrue(shows(ROW, 1, 1, 1, (first, [(third, []), (last, [])])))
        self.assertTrue(shows(ROW, 1, 1, 1, (second, [(last, []), (last, []), (first, [])])))
        # With a prop under the second cell the third one is carried well enough.
        self.assertFalse(shows(ROW, 1, 1, 1, (first, [(third, []), (third, [])])))
        self.assertFalse(shows(ROW, 1, 1, 1, (first, [(last, []), (third, [])])))
        self.assertFalse(shows(ROW, 1, 1, 1, (first, [(last, [])])))
        self.assertFalse(shows(ROW, 1, 1, 1, (first, [(last, []), (last, []), (last, [])])))
        self.assertFalse(shows(ROW, 1, 1, 1, (second, [(last, []), (first, []), (last, [])])))
        self.assertFalse(shows(ROW, 1, 1, 1, (first, [])))

    def test_any_cell_that_hangs_will_do(self):
        one, other = (0, 0, 2), (2, 0, 2)
        self.assertTrue(shows(PAIR, 1, 2, 1, (one, [(other, [])])))
        self.assertTrue(shows(PAIR, 1, 2, 1, (other, [(one, [])])))
        self.assertFalse(shows(PAIR, 1, 2, 1, (one, [(one, [])])))
        self.assertFalse(shows(PAIR, 1, 2, 1, (other, [(other, [])])))

    def test_the_papers_stand_in_the_order_of_the_cells(self):
        cell, papers = ((1, 0, 1), [((3, 0, 1), []), ((3, 0, 1), []), ((0, 0, 1), [])])
        self.assertTrue(shows(ROW, 1, 1, 1, (cell, papers)))
        self.assertFalse(shows(ROW, 1, 1, 1, (cell, papers[::-1])))
        self.assertFalse(shows(ROW, 1, 1, 1, (cell, [papers[0], papers[2], papers[1]])))
        self.assertTrue(shows(ROW, 1, 1, 1, (cell, [papers[1], papers[0], papers[2]])))

    def test_where_one_prop_does_no_paper_shows_that_it_does_not(self):
        body = as_body(drawn_layer(1, "###."))
        self.assertEqual(without_papers(fewest(body, 1)), [(1, [(1, 0, 1)])])
        three = [(x, 0, 1) for x in range(3)]
        for first, second, third in product(three, repeat=3):
            for cell in three:
                for papers in ([(first, []), (second, [])], [(first, []), (second, []), (third, [])]):
                    self.assertFalse(shows(body, 1, 1, 1, (cell, papers)))

    def test_of_three_props_and_more(self):
        for body, reach, many in ((PLATE, 1, 4), (CHECKED, 1, 8), (PLATE, 0, 16), (ROW, 0, 4), (TABLE, 1, 4)):
            (z, props, paper), = fewest(body, reach)
            self.assertEqual(len(props), many)
            self.assertTrue(shows(body, reach, z, many - 1, paper))
            self.assertFalse(shows(body, reach, z, many, paper))
            self.assertFalse(shows(body, reach, z, many - 2, paper))

    def test_for_another_layer_or_another_reach(self):
        for body in (ONE, PAIR, ROW, OVER, CHECKED, PLATE, TOWER):
            for z, props, paper in fewest(body, 0):
                for other in range(4):
                    self.assertIs(shows(body, 0, other, len(props) - 1, paper), other == z)
        (_, _, paper), = fewest(ROW, 1)
        for reach in (0, 2):
            self.assertFalse(shows(ROW, reach, 1, 1, paper))
        (_, _, paper), = fewest(ROW, 0)
        for reach in (1, 2):
            self.assertFalse(shows(ROW, reach, 1, 3, paper))

    def test_a_cell_that_does_not_hang(self):
        for cell in ((0, 0, 0), (0, 0, 1), (1, 0, 1), (2, 0, 1), (0, 1, 1)):
            body = as_body([(0, 0, 0), (0, 0, 1), (1, 0, 1), (2, 0, 1)])
            self.assertIs(shows(body, 1, 1, 0, (cell, [])), cell == (2, 0, 1))
        for cell in ROOM:
            for z in range(4):
                self.assertFalse(shows(FULL, 0, z, 0, (cell, [])))
                self.assertFalse(shows(EMPTY, 0, z, 0, (cell, [])))
        for cell in ((4, 0, 1), (-1, 0, 1), (0, 0, 4), (100, 0, 10 ** 30)):
            self.assertFalse(shows(ROW, 0, 1, 0, (cell, [])))

    def test_papers_told_otherwise(self):
        rng = random.Random(32)
        for body in (PAIR, ROW, OVER, CHECKED, TOWER, TABLE, *SAMPLES[:8]):
            for reach in (0, 1, 2):
                for z, props, paper in fewest(body, reach):
                    others = list(told_otherwise(paper))
                    for other in rng.sample(others, min(5, len(others))):
                        wanted = reference.paper_shows(found_of(body), reach, z, len(props) - 1, other)
                        self.assertIs(shows(body, reach, z, len(props) - 1, other), wanted)

    def test_one_left_out_or_told_twice_or_too_many(self):
        for body, reach in ((PAIR, 0), (ROW, 0), (ROW, 1), (OVER, 1), (CHECKED, 2), (PLATE, 1), (PLATE, 0), (TABLE, 1)):
            for z, props, told in fewest(body, reach):
                for at, right in enumerate(inner_lists(told)):
                    for wrong in (right[1:], right[:-1], right + right[:1], right + [told], []):
                        if len(wrong) != len(right):
                            paper = copy.deepcopy(told)
                            inner_lists(paper)[at][:] = wrong
                            self.assertFalse(shows(body, reach, z, len(props) - 1, paper))

    def test_papers_deep_within_one_another(self):
        for many in (1, 2, 16, 19, 20, 24):
            for body in (ROW, PLATE, CHECKED, FULL):
                for reach in (0, 1, 2):
                    deep = deep_chain(many + 1, (0, 0, 1))
                    for z in (1, 2):
                        wanted = reference.paper_shows(found_of(body), reach, z, many, deep)
                        self.assertIs(shows(body, reach, z, many, deep), wanted)


class Refused(unittest.TestCase):
    def test_bad_reach(self):
        for reach in BAD_REACHES:
            for body in (ROW, EMPTY, FULL):
                assert_refused(self, BadReach, fewest, body, reach)
                assert_refused(self, BadReach, shows, body, reach, 1, 0, ((0, 0, 1), []))

    def test_no_layer(self):
        for z in FAR_NUMBERS:
            for body in (ROW, EMPTY, FULL):
                for reach in (0, 1, 2):
                    assert_refused(self, NoLayer, shows, body, reach, z, 0, ((0, 0, 1), []))

    def test_bad_reach_is_ahead_of_no_layer(self):
        for reach in BAD_REACHES:
            for z in FAR_NUMBERS:
                assert_refused(self, BadReach, shows, ROW, reach, z, 0, ((0, 0, 1), []))

    def test_a_refused_body_is_ahead_of_both(self):
        for body, wanted in ((NO_BODY, NoBody), (OUTSIDE, Outside)):
            for reach in (0, 3, -1):
                assert_refused(self, wanted, fewest, body, reach)
                for z in (0, 4, -1):
                    assert_refused(self, wanted, shows, body, reach, z, 0, ((0, 0, 1), []))


class Told(unittest.TestCase):
    def test_kinds_of_values(self):
        told = fewest(TOWER, 0)
        self.assertIsInstance(told, list)
        for each in told:
            self.assertIsInstance(each, tuple)
            z, props, paper = each
            self.assertIsInstance(z, int)
            self.assertIsInstance(props, list)
            self.assertTrue(all(isinstance(cell, tuple) for cell in props))
            while paper:
                self.assertIsInstance(paper, tuple)
                self.assertEqual(len(paper), 2)
                self.assertIsInstance(paper[0], tuple)
                self.assertIsInstance(paper[1], list)
                paper = paper[1][0] if paper[1] else None

    def test_each_told_list_is_one_of_its_own(self):
        for body in ALL:
            for reach in (0, 1, 2):
                told = fewest(body, reach)
                lists = [told] + [props for _, props, _ in told]
                for _, _, paper in told:
                    lists.extend(inner_lists(paper))
                self.assertEqual(len({id(each) for each in lists}), len(lists))

    def test_told_lists_may_be_changed(self):
        for body in (ONE, PAIR, ROW, OVER, PLATE, TOWER):
            for reach in (0, 1, 2):
                wanted = copy.deepcopy(fewest(body, reach))
                told = fewest(body, reach)
                for z, props, paper in told:
                    for each in inner_lists(paper):
                        each.append(((9, 9, 9), []))
                    props.clear()
                told.reverse()
                told.append("more")
                self.assertEqual(fewest(body, reach), wanted)
                for z, props, paper in wanted:
                    self.assertTrue(shows(body, reach, z, len(props) - 1, paper))
                for z, props, paper in fewest(body, reach):
                    for each in inner_lists(paper):
                        each.clear()
                self.assertEqual(fewest(body, reach), wanted)

    def test_no_props_told_may_be_changed(self):
        fewest(FULL, 1).append((1, [(0, 0, 1)], ((0, 0, 1), [])))
        self.assertEqual(fewest(FULL, 1), [])
        self.assertEqual(fewest(EMPTY, 1), [])

    def test_the_paper_handed_in_stands_as_it_was(self):
        for body in (PAIR, ROW, PLATE, TOWER):
            for reach in (0, 1, 2):
                for z, props, paper in fewest(body, reach):
                    before = copy.deepcopy(paper)
                    for many in (0, len(props) - 1, len(props)):
                        shows(body, reach, z, many, paper)
                    self.assertEqual(paper, before)

    def test_the_paper_handed_in_may_be_changed_later(self):
        for body, reach in ((PAIR, 2), (ROW, 1), (PLATE, 1), (CHECKED, 0)):
            (z, props, paper), = fewest(body, reach)
            many = len(props) - 1
            kept = copy.deepcopy(paper)
            self.assertTrue(shows(body, reach, z, many, paper))
            inner_lists(paper)[-1].append(((0, 0, 0), []))
            self.assertFalse(shows(body, reach, z, many, paper))
            self.assertTrue(shows(body, reach, z, many, kept))
            inner_lists(paper)[-2].pop()
            paper[1].clear()
            self.assertFalse(shows(body, reach, z, many, paper))
            self.assertTrue(shows(body, reach, z, many, kept))


if __name__ == "__main__":
    unittest.main()
