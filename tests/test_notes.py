import random
import unittest
from itertools import product

import reference
from layerprint.bodies import cells, is_body, slice_at
from layerprint.errors import BadText, NoBody, Outside
from layerprint.notes import read, written
from samples import DOT, EMPTY, FULL, NO_BODY, OUTSIDE, ROOM, as_body, assert_refused, drawn_layer, many_cells

NONE = ["...."] * 4
FIRST = ["##..", "....", "#..#", "...."]
SECOND = ["....", ".#..", "....", "...#"]
THIRD = ["####"] * 4
SAMPLES = many_cells(71, 60)


def text(*layers):
    """The text of these layers, each a list of rows."""
    return "\n-\n".join("\n".join(rows) for rows in layers)


def with_row(layers, at, row):
    """The text of these layers, with another row at this number."""
    rows = text(*layers).split("\n")
    rows[at] = row
    return "\n".join(rows)


def without_row(layers, at):
    rows = text(*layers).split("\n")
    del rows[at]
    return "\n".join(rows)


def with_more(layers, at, row):
    rows = text(*layers).split("\n")
    rows.insert(at, row)
    return "\n".join(rows)


class Written(unittest.TestCase):
    def test_one_layer(self):
        self.assertEqual(written(DOT), "#...\n....\n....\n....")
        self.assertEqual(written(as_body([(3, 1, 0), (0, 2, 0)])), "....\n...#\n#...\n....")
        self.assertEqual(written(("block", (1, 2, 0), (3, 2, 1))), "....\n....\n.###\n.###")

    def test_several_layers(self):
        body = as_body(drawn_layer(0, *FIRST) + drawn_layer(1, *SECOND))
        self.assertEqual(written(body), "##..\n....\n#..#\n....\n-\n....\n.#..\n....\n...#")
        higher = ("with", body, ("block", (0, 0, 2), (4, 4, 1)))
        self.assertEqual(written(higher), text(FIRST, SECOND, THIRD))

    def test_all_four_layers(self):
        self.assertEqual(written(FULL), "\n-\n".join(["####\n####\n####\n####"] * 4))
        self.assertEqual(written(as_body([(0, 0, z) for z in range(4)])), "\n-\n".join(["#...\n....\n....\n...."] * 4))

    def test_up_to_the_highest_layer(self):
        for x, y, z in ROOM:
            rows = written(as_body([(x, y, z)])).split("\n")
            self.assertEqual(len(rows), 5 * z + 4)
            self.assertEqual(rows[5 * z + y], "." * x + "#" + "." * (3 - x))
            self.assertEqual(rows.count("...."), len(rows) - 1 - z)

    def test_empty_layers_below_filled_ones(self):
        self.assertEqual(written(as_body(drawn_layer(2, *FIRST))), text(NONE, NONE, FIRST))
        body = as_body(drawn_layer(1, *SECOND) + drawn_layer(3, *FIRST))
        self.assertEqual(written(body), text(NONE, SECOND, NONE, FIRST))

    def test_without_cells(self):
        for body in (EMPTY, ("less", FULL, FULL), ("common", DOT, as_body([(1, 1, 1)])), ("moved", (3, 3, 3), EMPTY)):
            self.assertEqual(written(body), "")

    def test_rows_are_those_of_slices(self):
        for listed in SAMPLES:
            body = as_body(listed)
            self.assertEqual(written(body), reference.text_of(set(listed)))
            for z, part in enumerate(written(body).split("\n-\n") if listed else []):
                self.assertEqual(tuple(part.split("\n")), slice_at(body, z))

    def test_a_refused_body(self):
        assert_refused(self, NoBody, written, NO_BODY)
        assert_refused(self, Outside, written, OUTSIDE)

    def test_it_is_a_text(self):
        for body in (EMPTY, DOT, FULL):
            self.assertIs(written(body).__class__, str)


class Read(unittest.TestCase):
    def test_the_empty_text(self):
        self.assertEqual(read(""), ("cells", ()))

    def test_one_layer(self):
        self.assertEqual(read("#...\n....\n....\n...."), ("cells", ((0, 0, 0),)))
        self.assertEqual(read("....\n...#\n#...\n...."), ("cells", ((0, 2, 0), (3, 1, 0))))

    def test_cells_are_rising(self):
        body = read(text(FIRST, SECOND))
        wanted = ((0, 0, 0), (0, 2, 0), (1, 0, 0), (1, 1, 1), (3, 2, 0), (3, 3, 1))
        self.assertEqual(body, ("cells", wanted))

    def test_empty_layers_below_filled_ones(self):
        self.assertEqual(read(text(NONE, NONE, NONE, ["....", "....", "....", "..#."])), ("cells", ((2, 3, 3),)))

    def test_what_was_written(self):
        pit = ("less", FULL, ("block", (1, 1, 1), (2, 2, 3)))
        wall = ("turned", "y", ("block", (0, 1, 0), (4, 1, 2)))
        for body in (EMPTY, DOT, FULL, pit, wall, *(as_body(listed) for listed in SAMPLES)):
            again = read(written(body))
            self.assertEqual(again, ("cells", tuple(cells(body))))
            self.assertIs(is_body(again), True)
            self.assertEqual(written(again), written(body))

    def test_kinds_of_values(self):
        for each in ("", text(FIRST), text(NONE, SECOND)):
            body = read(each)
            self.assertIs(body.__class__, tuple)
            self.assertIs(body[1].__class__, tuple)
            self.assertTrue(all(cell.__class__ is tuple for cell in body[1]))


class Refused(unittest.TestCase):
    def refused_at(self, row, wrong):
        self.assertEqual(reference.wrong_row(wrong), row, repr(wrong))
        assert_refused(self, BadText, read, wrong)
        with self.assertRaises(BadText) as caught:
            read(wrong)
        self.assertEqual(caught.exception.row, row, repr(wrong))
        self.assertIs(caught.exception.row.__class__, int)

    def test_a_row_too_short_or_too_long_or_empty(self):
        layers = (FIRST, SECOND, THIRD)
        for at in (0, 1, 2, 3, 5, 7, 8, 10, 12, 13):
            for row in ("", ".", "#", "...", "###", ".....", "#####", "####....", "." * 1000):
                self.refused_at(at, with_row(layers, at, row))

    def test_a_row_of_other_signs(self):
        for at in (0, 2, 3, 5, 8, 10, 13):
            for row in ("..x.", "0000", "##,#", "*...", "...~", "!!!!", "-...", "...-", "----", "-", "..:#", "XXXX"):
                self.refused_at(at, with_row((FIRST, SECOND, THIRD), at, row))

    def test_blanks(self):
        for at in (0, 3, 5, 8):
            for row in (" ##..", "##.. ", "## ..", " #..", "#.. ", "#. .", "    ", " ", "# # # #", ".  ."):
                self.refused_at(at, with_row((FIRST, SECOND), at, row))
        for row in (" -", "- ", " - ", " "):
            self.refused_at(4, with_row((FIRST, SECOND), 4, row))

    def test_the_row_between(self):
        layers = (FIRST, SECOND, THIRD)
        for at in (4, 9):
            for row in ("", "--", "----", "-.", ".", "....", "####", "_", "+"):
                self.refused_at(at, with_row(layers, at, row))
            self.refused_at(at, without_row(layers, at))
            self.refused_at(at + 1, with_more(layers, at, "-"))

    def test_the_row_between_at_the_beginning_or_at_the_end(self):
        for layers in ((FIRST,), (FIRST, SECOND), (NONE, NONE, FIRST)):
            right = text(*layers)
            self.refused_at(0, "-\n" + right)
            # At the end it stands well: the layer above is lacking.
            self.refused_at(5 * len(layers), right + "\n-")
            self.refused_at(5 * len(layers), right + "\n-\n-")
        self.refused_at(0, "-")
        self.refused_at(0, "-\n-")
        self.refused_at(19, text(FIRST, SECOND, THIRD, FIRST) + "\n-")

    def test_a_row_lacking(self):
        rows = text(FIRST, SECOND).split("\n")
        for many in (1, 2, 3, 5, 6, 7, 8):
            self.refused_at(many, "\n".join(rows[:many]))
        for at in range(4):
            # The row between comes a row too early.
            self.refused_at(3, without_row((FIRST, SECOND), at))
            self.refused_at(8, without_row((FIRST, SECOND), 5 + at))
            self.refused_at(8, without_row((FIRST, SECOND, THIRD), 5 + at))
            self.refused_at(3, without_row((FIRST,), at))
            self.refused_at(18, without_row((FIRST, SECOND, THIRD, FIRST), 15 + at))

    def test_a_row_more(self):
        for row in ("....", "####", "#...", "", "-.", "x"):
            self.refused_at(4, text(FIRST) + "\n" + row)
            self.refused_at(9, text(FIRST, SECOND) + "\n" + row)
            self.refused_at(14, text(FIRST, NONE, SECOND) + "\n" + row)
            self.refused_at(19, text(FIRST, SECOND, THIRD, FIRST) + "\n" + row)
        for at in range(4):
            self.refused_at(4, with_more((FIRST, SECOND), at, "...."))
            self.refused_at(9, with_more((FIRST, SECOND), 5 + at, "...."))

    def test_a_fifth_layer(self):
        for fifth in (FIRST, NONE, ["x"], []):
            self.refused_at(19, text(FIRST, SECOND, THIRD, FIRST, fifth))
            self.refused_at(19, text(FIRST, SECOND, THIRD, FIRST, fifth, fifth))
            self.refused_at(19, text(NONE, NONE, NONE, FIRST, fifth))

    def test_a_highest_layer_without_a_cell(self):
        for many in range(1, 5):
            self.refused_at(5 * many - 2, text(*[NONE] * many))
            self.refused_at(5 * many - 2, text(*[FIRST] * (many - 1), NONE))
        self.refused_at(13, text(FIRST, NONE, NONE))
        self.refused_at(18, text(FIRST, NONE, NONE, NONE))
        self.refused_at(18, text(NONE, SECOND, NONE, NONE))

    def test_texts_that_end_with_a_line_end(self):
        for listed in SAMPLES[:20]:
            if listed:
                right = reference.text_of(set(listed))
                for ends in ("\n", "\n\n", "\n\n\n"):
                    self.refused_at(right.count("\n") + 1, right + ends)

    def test_texts_that_begin_with_a_line_end(self):
        for right in ("", text(FIRST), text(FIRST, SECOND)):
            self.refused_at(0, "\n" + right)
            self.refused_at(0, "\n\n" + right)

    def test_small_texts(self):
        for wrong in ("\n", "\n\n", "\n" * 30, " ", "  ", " \n", "x", "#", ".", "-", "~", "0", "...", "-----"):
            self.refused_at(0, wrong)
        for wrong in ("....", "####"):
            self.refused_at(1, wrong)
            self.refused_at(1, wrong + "\n")
            self.refused_at(1, wrong + "\n ")

    def test_several_faults_the_first_row_is_told(self):
        layers = (FIRST, SECOND, THIRD)
        rows = text(*layers).split("\n")
        for first in range(14):
            for later in range(first + 1, 14):
                wrong = list(rows)
                wrong[first], wrong[later] = "x", ""
                self.refused_at(first, "\n".join(wrong))
                self.refused_at(first, "\n".join(wrong[:later]))
                self.refused_at(first, "\n".join(wrong + ["more"]))
        # A row that can't stand goes ahead of a lacking one, and of a highest layer without a cell.
        self.refused_at(1, "....\n..\n....")
        self.refused_at(6, text(FIRST, ["....", "", "....", "...."]))
        self.refused_at(2, text(["....", "....", "... ", "...."]))
        # A lacking row goes ahead of a highest layer without a cell: which one is highest is open yet.
        self.refused_at(8, text(FIRST, NONE[:3]))
        self.refused_at(10, text(FIRST, NONE) + "\n-")
        self.refused_at(9, text(FIRST, NONE) + "\n")

    def test_texts_changed_at_random(self):
        rng = random.Random(72)
        refused = 0
        for _ in range(3000):
            signs = list(reference.text_of(set(rng.choice(SAMPLES))))
            for _ in range(rng.randint(1, 3)):
                at = rng.randint(0, len(signs))
                kind = rng.choice(("put", "take", "change"))
                if kind == "put":
                    signs.insert(at, rng.choice(".#-\n x"))
                elif signs:
                    signs[at:at + 1] = [] if kind == "take" else [rng.choice(".#-\n")]
            changed = "".join(signs)
            row = reference.wrong_row(changed)
            if row is None:
                self.assertEqual(written(read(changed)), changed)
            else:
                refused += 1
                self.refused_at(row, changed)
        self.assertGreater(refused, 1000)

    def test_rows_changed_at_random(self):
        rng = random.Random(73)
        for _ in range(2000):
            rows = reference.text_of(set(rng.choice(SAMPLES))).split("\n")
            for _ in range(rng.randint(1, 2)):
                at = rng.randint(0, len(rows))
                more = rng.choice(["....", "#..#", "-", "", "...", NONE, ["-", *NONE]])
                more = [more] if isinstance(more, str) else more
                rows[at:at + rng.choice((0, 0, 1, 5))] = rng.choice(([], more))
            changed = "\n".join(rows)
            row = reference.wrong_row(changed)
            if row is None:
                self.assertEqual(written(read(changed)), changed)
            else:
                self.refused_at(row, changed)

    def test_each_refusal_has_its_own_row(self):
        caught = []
        for wrong in ("x", "....", text(FIRST) + "\n"):
            with self.assertRaises(BadText) as each:
                read(wrong)
            caught.append(each.exception)
        self.assertEqual([each.row for each in caught], [0, 1, 4])

    def test_every_layer_of_two_signs(self):
        for signs in product(".#", repeat=6):
            rows = ["".join(signs[:4]), "".join(signs[4:]) + "..", "....", "...."]
            wanted = [(x, y, 0) for y, row in enumerate(rows) for x, sign in enumerate(row) if sign == "#"]
            if wanted:
                self.assertEqual(read(text(rows)), as_body(wanted))
            else:
                self.refused_at(3, text(rows))


if __name__ == "__main__":
    unittest.main()
