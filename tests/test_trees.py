"""Programs and statements (points 2, 6, 7, 8, and how point 9 says they are written)."""

import unittest

from manyboard.boards import Board
from manyboard.errors import BadCount, NoName
from manyboard.trees import Choose, If, Loop, Mark, Program, Skip, Stop, Wait, While, Write

EMPTY = Program([])
ONE = Program([Skip()])
TWO = Program([Write("a", "b"), Stop()])


def skips(count):
    return [Skip() for _ in range(count)]


def deep(depth, wrap=Loop):
    """A program of this depth: the innermost one is without statements."""
    program = Program([])
    for _ in range(depth - 1):
        program = Program([wrap(program)])
    return program


def refused(statements):
    """What and how many a program of these statements is refused for, or None."""
    try:
        Program(statements)
    except BadCount as error:
        return error.what, error.count
    return None


class Fields(unittest.TestCase):
    def check(self, made, **fields):
        self.assertEqual(set(vars(made)), set(fields))
        for field, worth in fields.items():
            self.assertEqual(getattr(made, field), worth)

    def test_by_place(self):
        self.check(Write("c", "v"), cell="c", value="v")
        self.check(Wait("c", "v"), cell="c", value="v")
        self.check(Mark("m"), name="m")
        self.check(Skip())
        self.check(Stop())
        self.check(If("c", "v", ONE, TWO), cell="c", value="v", yes=ONE, no=TWO)
        self.check(While("c", "v", ONE), cell="c", value="v", body=ONE)
        self.check(Choose(ONE, TWO), one=ONE, other=TWO)
        self.check(Loop(TWO), body=TWO)

    def test_by_name(self):
        self.check(Write(value="v", cell="c"), cell="c", value="v")
        self.check(Wait(value="v", cell="c"), cell="c", value="v")
        self.check(Mark(name="m"), name="m")
        self.check(If(no=TWO, yes=ONE, value="v", cell="c"), cell="c", value="v", yes=ONE, no=TWO)
        self.check(While(body=ONE, value="v", cell="c"), cell="c", value="v", body=ONE)
        self.check(Choose(other=TWO, one=ONE), one=ONE, other=TWO)
        self.check(Loop(body=TWO), body=TWO)

    def test_the_row_of_a_program_is_a_tuple(self):
        self.assertEqual(Program([]).row, ())
        self.assertIsInstance(Program([]).row, tuple)
        self.assertEqual(TWO.row, (Write("a", "b"), Stop()))
        self.assertIsInstance(TWO.row, tuple)
        self.assertEqual(Program(statements=[Skip(), Stop()]).row, (Skip(), Stop()))

    def test_a_refused_name_comes_with_its_text(self):
        for make, text in (
            (lambda: Write("1c", "v"), "1c"),
            (lambda: Write("c", "V"), "V"),
            (lambda: Wait("", "v"), ""),
            (lambda: Wait("c", "v v"), "v v"),
            (lambda: Mark("abcdefghijk"), "abcdefghijk"),
            (lambda: If("C", "", ONE, TWO), "C"),
            (lambda: If("c", "{", ONE, TWO), "{"),
            (lambda: While("C", "", ONE), "C"),
            (lambda: While("c", "}", ONE), "}"),
        ):
            with self.subTest(text):
                with self.assertRaises(NoName) as caught:
                    make()
                self.assertEqual(caught.exception.name, text)


class HowManyStatements(unittest.TestCase):
    def test_side_by_side(self):
        self.assertEqual(len(Program(skips(24)).row), 24)
        for count in (25, 26, 100):
            self.assertEqual(refused(skips(count)), ("statements", count))

    def test_within_each_kind_of_statement(self):
        for wrap, extra in (
            (lambda many: If("c", "v", Program(skips(many)), EMPTY), 0),
            (lambda many: If("c", "v", EMPTY, Program(skips(many))), 0),
            (lambda many: While("c", "v", Program(skips(many))), 0),
            (lambda many: Choose(Program(skips(many)), EMPTY), 0),
            (lambda many: Choose(EMPTY, Program(skips(many))), 0),
            (lambda many: Loop(Program(skips(many))), 0),
            (lambda many: If("c", "v", Program(skips(many)), ONE), 1),
            (lambda many: If("c", "v", ONE, Program(skips(many))), 1),
            (lambda many: Choose(Program(skips(many)), ONE), 1),
            (lambda many: Choose(ONE, Program(skips(many))), 1),
            (lambda many: Loop(Program([Loop(Program(skips(many)))])), 1),
        ):
            self.assertIsNone(refused([wrap(23 - extra)]))
            self.assertEqual(refused([wrap(24 - extra)]), ("statements", 25))
            self.assertIsNone(refused(skips(3) + [wrap(20 - extra)]))
            self.assertEqual(refused([wrap(20 - extra)] + skips(4)), ("statements", 25))

    def test_deep_within(self):
        inner = Program([While("c", "v", Program([Choose(Program(skips(5)), Program(skips(6)))]))])
        self.assertIsNone(refused([Loop(inner)] + skips(10)))
        self.assertEqual(refused([Loop(inner)] + skips(11)), ("statements", 25))
        self.assertEqual(refused([Loop(inner), Loop(inner)]), ("statements", 28))

    def test_the_same_program_in_two_places_counts_twice(self):
        inner = Program(skips(11))
        self.assertIsNone(refused([Choose(inner, inner)] + skips(1)))
        self.assertEqual(refused([Choose(inner, inner)] + skips(2)), ("statements", 25))


class Depth(unittest.TestCase):
    def test_six_and_seven(self):
        wraps = (Loop, lambda inner: While("c", "v", inner),
                 lambda inner: If("c", "v", inner, EMPTY), lambda inner: If("c", "v", EMPTY, inner),
                 lambda inner: Choose(inner, ONE), lambda inner: Choose(ONE, inner))
        for wrap in wraps:
            six = deep(6, wrap)
            self.assertEqual(refused([wrap(six)]), ("depth", 7))
            self.assertEqual(refused([Skip(), wrap(six), Skip()]), ("depth", 7))
            self.assertIsNone(refused([Skip(), wrap(deep(5, wrap)), Skip()]))

    def test_the_deepest_one_counts(self):
        self.assertIsNone(refused([Loop(deep(5)), Loop(deep(2)), Choose(deep(5), deep(1))]))
        self.assertEqual(refused([Loop(deep(6)), Loop(deep(2))]), ("depth", 7))
        self.assertEqual(refused([Loop(deep(2)), Loop(deep(6)), Skip()]), ("depth", 7))
        self.assertEqual(refused([Choose(deep(3), deep(6))]), ("depth", 7))

    def test_side_by_side_is_not_deep(self):
        self.assertIsNone(refused([Loop(EMPTY) for _ in range(24)]))

    def test_statements_within_the_innermost_one_add_no_depth(self):
        program = ONE
        for _ in range(5):
            program = Program([Loop(program)])
        self.assertEqual(refused([Loop(program)]), ("depth", 7))

    def test_the_statements_come_first(self):
        self.assertEqual(refused([Loop(deep(6))] + skips(19)), ("statements", 25))
        self.assertEqual(refused([Loop(deep(6))] + skips(18)), ("depth", 7))


class ListsChangedAfterwards(unittest.TestCase):
    def test_the_list_handed_in(self):
        statements = [Skip(), Mark("m")]
        program = Program(statements)
        self.assertEqual(statements, [Skip(), Mark("m")])
        statements.append(Stop())
        statements[0] = Write("a", "b")
        self.assertEqual(program.row, (Skip(), Mark("m")))
        self.assertEqual(str(program), "skip mark m")
        self.assertTrue(program == Program([Skip(), Mark("m")]))

    def test_a_refused_list_is_not_changed(self):
        statements = skips(25)
        with self.assertRaises(BadCount):
            Program(statements)
        self.assertEqual(statements, skips(25))


# Statements and programs that all differ from each other in one thing or more.
DIFFERENT = [
    Write("a", "b"), Write("a", "c"), Write("c", "b"), Write("b", "a"),
    Wait("a", "b"), Wait("a", "c"), Wait("c", "b"), Wait("b", "a"),
    Mark("a"), Mark("b"), Skip(), Stop(),
    If("a", "b", ONE, TWO), If("c", "b", ONE, TWO), If("a", "c", ONE, TWO),
    If("a", "b", TWO, TWO), If("a", "b", ONE, ONE), If("a", "b", TWO, ONE),
    While("a", "b", ONE), While("c", "b", ONE), While("a", "c", ONE), While("a", "b", TWO),
    Choose(ONE, TWO), Choose(TWO, ONE), Choose(ONE, ONE), Choose(TWO, TWO),
    Loop(ONE), Loop(TWO), Loop(EMPTY),
    EMPTY, ONE, TWO, Program([Stop()]), Program([Stop(), Write("a", "b")]), Program([Skip(), Skip()]),
    Program([Loop(ONE)]), Program([Loop(TWO)]),
    Program([Loop(Program([While("a", "b", Program([If("a", "b", EMPTY, ONE)]))]))]),
    Program([Loop(Program([While("a", "b", Program([If("a", "b", ONE, ONE)]))]))]),
    Program([Loop(Program([While("a", "b", Program([If("a", "c", EMPTY, ONE)]))]))]),
    Program([Loop(Program([While("a", "c", Program([If("a", "b", EMPTY, ONE)]))]))]),
    Program([Loop(Program([While("a", "b", Program([If("a", "b", EMPTY, ONE)]), )])), Skip()]),
]


def made_anew(thing):
    """An equal statement or program of which no part is the same object."""
    if isinstance(thing, Program):
        return Program([made_anew(statement) for statement in thing.row])
    fields = {field: made_anew(worth) if isinstance(worth, Program) else worth
              for field, worth in vars(thing).items()}
    return thing.__class__(**fields)


class Equality(unittest.TestCase):
    def test_equal_where_all_parts_are(self):
        for thing in DIFFERENT:
            with self.subTest(thing):
                self.assertTrue(thing == made_anew(thing))
                self.assertFalse(thing != made_anew(thing))

    def test_unequal_where_one_thing_is_otherwise(self):
        for place, thing in enumerate(DIFFERENT):
            for another in DIFFERENT[:place]:
                with self.subTest(thing=vars(thing), another=vars(another)):
                    self.assertFalse(thing == another)
                    self.assertFalse(another == thing)
                    self.assertTrue(thing != another)

    def test_things_of_other_kinds(self):
        board = Board([("a", ["b", "c"])])
        others = (None, 0, 1, True, False, "", "skip", "a", "write a b", [], (), [Skip()], (Skip(),),
                  ("a", "b"), ["a", "b"], ("write", "a", "b"), {}, object(), board, NoName("a"), Skip, Program)
        for thing in DIFFERENT:
            for another in others:
                with self.subTest(thing=vars(thing), another=another):
                    self.assertFalse(thing == another)
                    self.assertFalse(another == thing)
                    self.assertTrue(thing != another)

    def test_a_program_is_not_its_row_or_its_text(self):
        self.assertFalse(TWO == TWO.row)
        self.assertFalse(TWO == list(TWO.row))
        self.assertFalse(TWO == str(TWO))
        self.assertFalse(ONE == Skip())


class Text(unittest.TestCase):
    def test_each_form(self):
        for statements, text in (
            ([], ""),
            ([Write("c", "v")], "write c v"),
            ([Wait("c", "v")], "wait c v"),
            ([Mark("m")], "mark m"),
            ([Skip()], "skip"),
            ([Stop()], "stop"),
            ([If("c", "v", ONE, TWO)], "if c v { skip } else { write a b stop }"),
            ([While("c", "v", TWO)], "while c v { write a b stop }"),
            ([Choose(TWO, ONE)], "choose { write a b stop } or { skip }"),
            ([Loop(ONE)], "loop { skip }"),
        ):
            with self.subTest(text):
                self.assertEqual(str(Program(statements)), text)

    def test_empty_rows(self):
        for statement, text in (
            (If("c", "v", EMPTY, EMPTY), "if c v { } else { }"),
            (If("c", "v", ONE, EMPTY), "if c v { skip } else { }"),
            (If("c", "v", EMPTY, ONE), "if c v { } else { skip }"),
            (While("c", "v", EMPTY), "while c v { }"),
            (Choose(EMPTY, EMPTY), "choose { } or { }"),
            (Choose(EMPTY, ONE), "choose { } or { skip }"),
            (Loop(EMPTY), "loop { }"),
        ):
            with self.subTest(text):
                self.assertEqual(str(Program([statement])), text)

    def test_rows_one_behind_the_other(self):
        program = Program([Skip(), Write("a", "b"), Mark("m"), Loop(EMPTY), Stop(), Wait("c", "d")])
        self.assertEqual(str(program), "skip write a b mark m loop { } stop wait c d")

    def test_rows_within_rows(self):
        inner = Program([If("a", "b", Program([Mark("in"), Skip()]), Program([Loop(EMPTY), Stop()]))])
        program = Program([While("c", "d", inner), Choose(inner, ONE), Skip()])
        self.assertEqual(
            str(program),
            "while c d { if a b { mark in skip } else { loop { } stop } } "
            "choose { if a b { mark in skip } else { loop { } stop } } or { skip } skip")

    def test_names_that_are_words(self):
        program = Program([Write("skip", "else"), Mark("or"), If("loop", "stop", EMPTY, Program([Mark("mark")]))])
        self.assertEqual(str(program), "write skip else mark or if loop stop { } else { mark mark }")

    def test_the_deepest_one(self):
        self.assertEqual(str(deep(6)), "loop { loop { loop { loop { loop { } } } } }")

    def test_told_alike_twice(self):
        program = Program([Loop(TWO)])
        self.assertEqual(str(program), str(program))
        self.assertEqual(str(program), str(made_anew(program)))


if __name__ == "__main__":
    unittest.main()
