"""Points 1 and 2 over the whole program: nothing handed in is changed or kept, what is told may be changed."""

import copy
import inspect
import random
import time
import unittest
from itertools import product

import asked
import layerprint.bodies
import layerprint.hanging
import layerprint.notes
import layerprint.props
import layerprint.strokes
import layerprint.tables
import layerprint.turning
import layerprint.upright
from layerprint.bodies import is_body
from layerprint.errors import BadPlace, BadReach, BadText, NoBody, NoLayer, NoProp, Outside
from layerprint.hanging import filled, hanging
from layerprint.notes import read, written
from layerprint.props import fewest, shows
from layerprint.strokes import best_order, printed, strokes
from layerprint.tables import holds, table
from layerprint.turning import alike
from layerprint.upright import best
from samples import DOT, EMPTY, FULL, NO_BODY, OUTSIDE, as_body, assert_refused, drawn_layer, many_cells

GALLOWS = as_body([(0, 0, 0), (0, 0, 1), (1, 0, 1), (2, 0, 1), (3, 0, 1)])
WALL = ("turned", "z", ("moved", (0, 1, 1), ("block", (0, 0, 0), (2, 1, 2))))
STEPS = ("with", ("block", (0, 0, 0), (4, 2, 1)), WALL)
LACE = as_body(drawn_layer(0, "#..#") + drawn_layer(1, "#.##", ".##.", "##.#") + drawn_layer(3, "####", "#..#", "#..#"))
BODIES = [EMPTY, DOT, GALLOWS, STEPS, LACE, ("less", FULL, ("block", (1, 0, 0), (2, 3, 3)))]
MODULES = (
    layerprint.bodies, layerprint.turning, layerprint.hanging, layerprint.props, layerprint.strokes,
    layerprint.tables, layerprint.upright, layerprint.notes,
)


def lists_of(told):
    """All lists that are told, however deep within lists and tuples."""
    found = [told] if isinstance(told, list) else []
    if isinstance(told, (list, tuple)):
        for part in told:
            found.extend(lists_of(part))
    return found


def spoil(told, way):
    """All lists that are told are changed, the inner ones first."""
    for each in reversed(lists_of(told)):
        if way == "emptied":
            each.clear()
        elif way == "lengthened":
            each.append("more")
            each.insert(0, ((9, 9, 9), []))
        elif way == "turned about":
            each.reverse()
            del each[:1]


class ChangedByTheCaller(unittest.TestCase):
    def test_asked_again_all_is_told_as_at_first(self):
        rng = random.Random(81)
        questions = list(product(asked.every_call(), BODIES))
        wanted = [copy.deepcopy(call(body)) for call, body in questions]
        for way in ("emptied", "lengthened", "turned about", "left"):
            order = list(range(len(questions)))
            rng.shuffle(order)
            for at in order:
                call, body = questions[at]
                told = call(body)
                self.assertEqual(told, wanted[at])
                spoil(told, way)

    def test_each_list_told_is_one_of_its_own(self):
        # All answers are kept, so that no list of a later one can stand where an earlier one was.
        kept = [call(body) for call, body in product(asked.every_call(), BODIES) for _ in range(2)]
        lists = [each for told in kept for each in lists_of(told)]
        self.assertEqual(len({id(each) for each in lists}), len(lists))

    def test_refusals_in_between_make_no_difference(self):
        calls = asked.every_call()
        wanted = [copy.deepcopy(call(LACE)) for call in calls]
        for _, refused in asked.HANDED + asked.HANDED_WRONG:
            for body in (NO_BODY, OUTSIDE):
                self.assertRaises(ValueError, refused, body)
        for wrong in ("x", "....", "\n"):
            self.assertRaises(BadText, read, wrong)
        self.assertEqual([call(LACE) for call in calls], wanted)

    def test_modules_keep_nothing(self):
        before = {module: copy.deepcopy(self.values_of(module)) for module in MODULES}
        for call, body in product(asked.every_call(), BODIES):
            call(body)
        for module in MODULES:
            self.assertEqual(self.values_of(module), before[module])

    def values_of(self, module):
        return {
            name: value for name, value in vars(module).items()
            if isinstance(value, (int, str, tuple, list, dict)) and not name.startswith("__")
        }

    def test_functions_keep_nothing(self):
        for module in MODULES:
            for _, function in inspect.getmembers(module, inspect.isfunction):
                defaults = [each.default for each in inspect.signature(function).parameters.values()]
                self.assertFalse([each for each in defaults if isinstance(each, (list, dict, set))])


class HandedIn(unittest.TestCase):
    def test_lists_handed_in_stand_as_they_were(self):
        for body, reach in product(BODIES, range(3)):
            props = [cell for _, under, _ in fewest(body, reach) for cell in under][::-1]
            before = list(props)
            hanging(body, props, reach)
            filled(body, props)
            self.assertEqual(props, before)
            for z, under, paper in fewest(body, reach):
                kept = copy.deepcopy(paper)
                shows(body, reach, z, len(under) - 1, paper)
                shows(body, reach, z, len(under), paper)
                self.assertEqual(paper, kept)
        for body, z in product(BODIES, range(4)):
            told = table(body, z, (1, 1))[::-1]
            before = copy.deepcopy(told)
            holds(body, z, (1, 1), 0, told)
            holds(body, z, (1, 1), 99, told)
            self.assertEqual(told, before)

    def test_what_is_told_holds_nothing_of_what_was_handed_in(self):
        props = [(3, 0, 1), (1, 0, 1)]
        told = hanging(GALLOWS, props, 0)
        props.clear()
        self.assertEqual(told, [((2, 0, 1), 1)])
        (z, under, paper), = fewest(GALLOWS, 0)
        self.assertTrue(shows(GALLOWS, 0, z, 2, paper))
        under.clear()
        self.assertTrue(shows(GALLOWS, 0, z, 2, paper))

    def test_a_body_that_was_read_is_a_body_to_all(self):
        for body in BODIES:
            again = read(written(body))
            self.assertIs(is_body(again), True)
            for call in asked.every_call():
                self.assertEqual(call(again), call(body))


class Together(unittest.TestCase):
    """The functions tell of a body what the others tell of it."""

    def test_turned_bodies(self):
        for body in BODIES:
            for word, many, full in best(body, 1):
                turned = body
                for edge in word:
                    turned = ("turned", edge, turned)
                self.assertEqual(alike(body, turned), word)
                if word == "":
                    self.assertEqual((many, full), self.needed(("cells", tuple(layerprint.turning.laid(body))), 1))

    def needed(self, body, reach):
        props = [cell for _, under, _ in fewest(body, reach) for cell in under]
        return (len(props), filled(body, props))

    def test_orders_and_tables(self):
        for body in BODIES:
            way, orders = printed(body, (3, 3))
            self.assertEqual([len(order) for order in orders], [len(strokes(body, z)) for z in range(len(orders))])
            if orders:
                self.assertTrue(strokes(body, len(orders) - 1))
                low, _ = best_order(body, 0, (3, 3))
                self.assertLessEqual(low, way)
                self.assertTrue(holds(body, 0, (3, 3), low, table(body, 0, (3, 3))))

    def test_as_quick_as_is_asked_for(self):
        filled_bodies = [as_body(listed) for listed in many_cells(82, 40) if len(listed) > 30]
        self.assertGreater(len(filled_bodies), 10)
        for body in [FULL, *filled_bodies]:
            begun = time.process_time()
            for _, call in asked.HANDED:
                call(body)
            self.assertLess(time.process_time() - begun, 3)


class Refusals(unittest.TestCase):
    def test_every_function_that_is_handed_a_body_is_asked(self):
        names = {
            name for module in MODULES for name, function in inspect.getmembers(module, inspect.isfunction)
            if function.__module__ == module.__name__ and not name.startswith("_")
            and set(inspect.signature(function).parameters) & {"body", "one"}
        }
        self.assertEqual({name.split()[0] for name, _ in asked.HANDED}, names - {"is_body"})

    def test_the_first_thing_handed_in_is_refused_first(self):
        paper = asked.NO_PAPER
        for wanted, call, *handed in (
            (NoBody, alike, NO_BODY, OUTSIDE),
            (Outside, alike, OUTSIDE, NO_BODY),
            (NoProp, hanging, GALLOWS, [(9, 9, 9)], 3),
            (BadReach, hanging, GALLOWS, [(1, 0, 1)], 3),
            (BadReach, shows, GALLOWS, 3, 4, 0, paper),
            (NoLayer, shows, GALLOWS, 2, 4, 0, paper),
            (NoLayer, best_order, GALLOWS, 4, (4, 4)),
            (BadPlace, best_order, GALLOWS, 3, (4, 4)),
            (NoLayer, table, GALLOWS, -1, (4, 4)),
            (BadPlace, table, GALLOWS, 0, (0, -1)),
            (NoLayer, holds, GALLOWS, 4, (-1, 0), 0, []),
            (BadPlace, holds, GALLOWS, 0, (-1, 0), 0, [((9,), (9, 9), 9)]),
        ):
            assert_refused(self, wanted, call, *handed)


if __name__ == "__main__":
    unittest.main()
