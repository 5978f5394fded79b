"""The refusals (points 2, 39, 40 and the interface)."""

import inspect
import unittest

from manyboard import errors

# Each refusal with its fields, in order, and with values to hand in.
REFUSALS = {
    "BadCount": (("what", "count"), ("cells", 4)),
    "NoName": (("name",), ("9a",)),
    "Twice": (("name",), ("red",)),
    "NoCell": (("name",), ("lamp",)),
    "NoValue": (("cell", "value"), ("lamp", "blue")),
    "BadText": (("place",), (2,)),
    "NoRoom": (("room",), (7,)),
    "NoHand": (("hand",), (3,)),
    "NoStep": (("step",), (5,)),
    "Shut": (("cell", "value"), ("door", "open")),
    "NoMark": (("name",), ("in",)),
    "Wide": (("count",), (300,)),
    "Never": ((), ()),
    "Beyond": (("count",), (6,)),
    "Full": ((), ()),
    "NoBar": (("name",), ("both",)),
    "Barred": (("many", "deeds"), (2, [(0, 1), (2, 0)])),
    "BadRow": (("row",), (0,)),
}


def refusal(name):
    return getattr(errors, name)


class EachRefusal(unittest.TestCase):
    def test_there_are_eighteen_and_no_other(self):
        self.assertEqual(len(REFUSALS), 18)
        here = {name for name, _ in inspect.getmembers(errors, inspect.isclass)}
        self.assertEqual(here, set(REFUSALS) | {"BoardError"})

    def test_fields_by_place(self):
        for name, (fields, values) in REFUSALS.items():
            with self.subTest(name):
                made = refusal(name)(*values)
                self.assertEqual(tuple(getattr(made, field) for field in fields), values)
                self.assertEqual(set(vars(made)), set(fields))

    def test_fields_by_name(self):
        for name, (fields, values) in REFUSALS.items():
            with self.subTest(name):
                made = refusal(name)(**dict(zip(fields, values)))
                self.assertEqual(tuple(getattr(made, field) for field in fields), values)
                self.assertEqual(set(vars(made)), set(fields))

    def test_told(self):
        for name, (fields, values) in REFUSALS.items():
            with self.subTest(name):
                self.assertEqual(refusal(name)(*values).told(), "refused " + name.lower())
                by_name = refusal(name)(**dict(zip(fields, values)))
                self.assertEqual(by_name.told(), "refused " + name.lower())

    def test_told_stands_in_each_class_itself(self):
        for name in REFUSALS:
            with self.subTest(name):
                self.assertIn("told", vars(refusal(name)))
                self.assertEqual(refusal(name).__module__, "manyboard.errors")


class Kinds(unittest.TestCase):
    def test_the_base_is_a_value_error(self):
        self.assertTrue(issubclass(errors.BoardError, ValueError))

    def test_the_base_tells_by_a_told_of_its_own(self):
        self.assertIn("told", vars(errors.BoardError))
        self.assertEqual(errors.BoardError.__module__, "manyboard.errors")
        self.assertEqual(errors.BoardError().told(), "refused boarderror")
        self.assertEqual(errors.BoardError("any words").told(), "refused boarderror")

    def test_told_is_the_word_and_the_name_of_the_class_for_all_nineteen(self):
        made = [errors.BoardError()] + [refusal(name)(*values) for name, (_, values) in REFUSALS.items()]
        self.assertEqual(len(made), 19)
        for one in made:
            with self.subTest(one.__class__.__name__):
                self.assertIn("told", vars(one.__class__))
                self.assertEqual(one.told(), "refused " + one.__class__.__name__.lower())

    def test_each_stands_under_the_base_alone(self):
        for name, (_, values) in REFUSALS.items():
            made = refusal(name)(*values)
            with self.subTest(name):
                self.assertIsInstance(made, errors.BoardError)
                self.assertIsInstance(made, ValueError)
                self.assertEqual(refusal(name).__bases__, (errors.BoardError,))
            for another in REFUSALS:
                if another != name:
                    with self.subTest(name, another=another):
                        self.assertNotIsInstance(made, refusal(another))

    def test_each_can_be_raised_and_caught_by_the_base(self):
        for name, (_, values) in REFUSALS.items():
            with self.subTest(name):
                with self.assertRaises(errors.BoardError) as caught:
                    raise refusal(name)(*values)
                self.assertIs(caught.exception.__class__, refusal(name))

    def test_a_refusal_is_never_equal_to_another_thing(self):
        for name, (_, values) in REFUSALS.items():
            for thing in (None, 0, "refused", [], (), values):
                with self.subTest(name, thing=thing):
                    self.assertFalse(refusal(name)(*values) == thing)


class DeedsOfABar(unittest.TestCase):
    def test_a_list_changed_afterwards_changes_nothing(self):
        for by_name in (False, True):
            deeds = [(0, 0), (1, 2)]
            made = errors.Barred(many=1, deeds=deeds) if by_name else errors.Barred(1, deeds)
            deeds.append((0, 1))
            del deeds[0]
            self.assertEqual(made.deeds, [(0, 0), (1, 2)])

    def test_what_was_handed_in_is_not_changed(self):
        deeds = [(0, 0)]
        errors.Barred(1, deeds).deeds.append((1, 1))
        self.assertEqual(deeds, [(0, 0)])


if __name__ == "__main__":
    unittest.main()
