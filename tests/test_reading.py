"""Reading texts of programs (points 2, 7, 8, 9 and 10)."""

import unittest

from manyboard.errors import BadCount, BadText, BoardError
from manyboard.reading import read_program
from manyboard.trees import Choose, If, Loop, Mark, Program, Skip, Stop, Wait, While, Write

EMPTY = Program([])
ONE = Program([Skip()])
TWO = Program([Write("a", "b"), Stop()])

FORMS = {
    "write c v": [Write("c", "v")],
    "wait c v": [Wait("c", "v")],
    "mark m": [Mark("m")],
    "skip": [Skip()],
    "stop": [Stop()],
    "if c v { skip } else { stop }": [If("c", "v", ONE, Program([Stop()]))],
    "while c v { skip }": [While("c", "v", ONE)],
    "choose { skip } or { stop }": [Choose(ONE, Program([Stop()]))],
    "loop { skip }": [Loop(ONE)],
}

# For each form, place by place: where the text is bad that leaves this part out, and where the one
# that tells it twice side by side; None where the text is still that of a program.
LEFT_OUT_AND_TWICE = {
    "write c v": ([0, 2, 2], [3, 3, 3]),
    "wait c v": ([0, 2, 2], [3, 3, 3]),
    "mark m": ([0, 1], [2, 2]),
    "skip": ([None], [None]),
    "stop": ([None], [None]),
    "if c v { skip } else { stop }": (
        [0, 2, 2, 3, None, 5, 6, 7, None, 9], [3, 3, 3, 4, None, 6, 7, 8, None, 10]),
    "while c v { skip }": ([0, 2, 2, 3, None, 5], [3, 3, 3, 4, None, 6]),
    "choose { skip } or { stop }": ([0, 1, None, 3, 4, 5, None, 7], [1, 2, None, 4, 5, 6, None, 8]),
    "loop { skip }": ([0, 1, None, 3], [1, 2, None, 4]),
}

# Parts that can stand at no place of any text: no words, no braces, no names.
NOWHERE = ["", "!", "9", "0a", "Skip", "SKIP", "abcdefghijk", "{}", "}{", "{{", "skip,", "a-b", "(", "~"]

WORDS = ["write", "wait", "mark", "skip", "stop", "if", "while", "choose", "loop", "else", "or"]


def place(text):
    """The place for which a text is refused, or None where it is not."""
    try:
        read_program(text)
    except BadText as error:
        return error.place
    return None


def counted(text):
    """What a text is refused for with BadCount, and the count, or None."""
    try:
        read_program(text)
    except BadCount as error:
        return error.what, error.count
    return None


def rows_deep(depth, word="loop {"):
    """The text of a program of this depth."""
    return " ".join([word] * (depth - 1) + ["}"] * (depth - 1))


class ThereAndBack(unittest.TestCase):
    def check(self, text, statements):
        with self.subTest(text):
            program = read_program(text)
            self.assertTrue(program == Program(statements))
            self.assertEqual(str(program), text)
            self.assertEqual(str(Program(statements)), text)

    def test_the_text_without_signs(self):
        self.check("", [])

    def test_each_form(self):
        for text, statements in FORMS.items():
            self.check(text, statements)

    def test_each_form_beside_each_other_one(self):
        for text, statements in FORMS.items():
            for another, others in FORMS.items():
                self.check(text + " " + another, statements + others)

    def test_each_form_within_each_place_of_another_one(self):
        for text, statements in FORMS.items():
            inner = Program(statements)
            self.check("if c v { " + text + " } else { }", [If("c", "v", inner, EMPTY)])
            self.check("if c v { } else { " + text + " }", [If("c", "v", EMPTY, inner)])
            self.check("while c v { " + text + " }", [While("c", "v", inner)])
            self.check("choose { " + text + " } or { }", [Choose(inner, EMPTY)])
            self.check("choose { } or { " + text + " }", [Choose(EMPTY, inner)])
            self.check("loop { " + text + " }", [Loop(inner)])

    def test_empty_rows(self):
        self.check("if c v { } else { }", [If("c", "v", EMPTY, EMPTY)])
        self.check("while c v { }", [While("c", "v", EMPTY)])
        self.check("choose { } or { }", [Choose(EMPTY, EMPTY)])
        self.check("loop { }", [Loop(EMPTY)])
        self.check("loop { } loop { } stop", [Loop(EMPTY), Loop(EMPTY), Stop()])

    def test_rows_within_rows_to_depth_six(self):
        inner = EMPTY
        for _ in range(5):
            inner = Program([Skip(), Loop(inner), Stop()])
        self.check("skip loop { skip loop { skip loop { skip loop { skip loop { } stop } stop } stop } stop } stop",
                   list(inner.row))
        mixed = Choose(Program([While("a", "b", Program([If("c", "d", Program([Loop(ONE)]), TWO)]))]), ONE)
        self.check("choose { while a b { if c d { loop { skip } } else { write a b stop } } } or { skip } mark m",
                   [mixed, Mark("m")])

    def test_words_as_cells_values_and_marks(self):
        for word in WORDS:
            for another in WORDS:
                self.check("write " + word + " " + another, [Write(word, another)])
                self.check("wait " + word + " " + another, [Wait(word, another)])
                self.check("if " + word + " " + another + " { } else { skip }", [If(word, another, EMPTY, ONE)])
                self.check("while " + word + " " + another + " { skip }", [While(word, another, ONE)])
            self.check("mark " + word, [Mark(word)])
            self.check("loop { mark " + word + " } skip", [Loop(Program([Mark(word)])), Skip()])

    def test_names_of_all_kinds(self):
        for name in ("a", "z", "a0", "abcdefghij", "z123456789"):
            self.check("write " + name + " " + name + " mark " + name, [Write(name, name), Mark(name)])

    def test_by_its_name_and_twice_alike(self):
        self.assertEqual(read_program(text="skip"), ONE)
        text = "if c v { mark m } else { loop { } }"
        self.assertTrue(read_program(text) == read_program(text))

    def test_what_is_read_is_made_of_tuples(self):
        program = read_program("loop { skip } stop")
        self.assertIsInstance(program.row, tuple)
        self.assertIsInstance(program.row[0].body, Program)


class BadPlaces(unittest.TestCase):
    def test_the_examples(self):
        self.assertEqual(place("write a"), 2)
        self.assertEqual(place("stop } skip"), 1)
        self.assertEqual(place("loop { skip"), 3)

    def test_a_part_left_out_or_told_twice(self):
        for text, (left_out, twice) in LEFT_OUT_AND_TWICE.items():
            parts = text.split(" ")
            self.assertEqual((len(left_out), len(twice)), (len(parts), len(parts)))
            for at, part in enumerate(parts):
                with self.subTest(text, at=at):
                    self.assertEqual(place(" ".join(parts[:at] + parts[at + 1:])), left_out[at])
                    self.assertEqual(place(" ".join(parts[:at] + [part] + parts[at:])), twice[at])

    def test_a_part_put_in_or_another_one_that_can_stand_nowhere(self):
        for text in FORMS:
            parts = text.split(" ")
            for at in range(len(parts) + 1):
                for part in NOWHERE:
                    with self.subTest(text, at=at, part=part):
                        self.assertEqual(place(" ".join(parts[:at] + [part] + parts[at:])), at)
                        if parts[:at] + parts[at + 1:]:
                            self.assertEqual(place(" ".join(parts[:at] + [part] + parts[at + 1:])), at)

    def test_a_text_that_ends_too_soon(self):
        for text in FORMS:
            parts = text.split(" ")
            for at in range(1, len(parts)):
                with self.subTest(text, at=at):
                    self.assertEqual(place(" ".join(parts[:at])), at)
                    self.assertEqual(place("skip loop { " + " ".join(parts[:at])), at + 3)

    def test_braces_and_words_where_names_are_wanted(self):
        for part in ("{", "}"):
            self.assertEqual(place("write " + part + " v"), 1)
            self.assertEqual(place("wait c " + part), 2)
            self.assertEqual(place("mark " + part), 1)
            self.assertEqual(place("if " + part + " v { } else { }"), 1)
            self.assertEqual(place("while c " + part + " { }"), 2)

    def test_a_name_where_a_word_or_a_brace_is_wanted(self):
        for text, at in (
            ("c", 0), ("else", 0), ("or", 0), ("{", 0), ("}", 0), ("skip c", 1), ("skip else", 1),
            ("loop skip", 1), ("loop else", 1), ("while c v skip", 3), ("if c v else", 3),
            ("if c v { } or { }", 5), ("choose { } else { }", 3), ("if c v { } { }", 5),
            ("choose { or } or { }", 2), ("choose { } or { } or { }", 6), ("if c v { } else { } else { }", 8),
            ("loop { } }", 3), ("loop { { } }", 2), ("loop { } { }", 3),
        ):
            with self.subTest(text):
                self.assertEqual(place(text), at)

    def test_blanks(self):
        for text, at in (
            (" ", 0), ("  ", 0), (" skip", 0), ("skip ", 1), ("skip  skip", 1), ("write  c v", 1),
            ("write c  v", 2), ("write c v ", 3), ("loop {  }", 2), ("loop { } ", 3), ("loop {", 2), ("loop { ", 2),
        ):
            with self.subTest(text):
                self.assertEqual(place(text), at)

    def test_the_first_one_counts(self):
        self.assertEqual(place("skip ! ! }"), 1)
        self.assertEqual(place("write 9 9"), 1)
        self.assertEqual(place("write c 9 loop"), 2)

    def test_no_name_is_a_bad_text(self):
        for text in ("mark 9", "write C v", "wait c abcdefghijk", "if c - { } else { }"):
            with self.subTest(text):
                with self.assertRaises(BoardError) as caught:
                    read_program(text)
                self.assertIs(caught.exception.__class__, BadText)


class HowManyParts(unittest.TestCase):
    def test_two_hundred_and_one_more(self):
        self.assertEqual(counted(" ".join(["skip"] * 200)), ("statements", 200))
        self.assertEqual(counted(" ".join(["skip"] * 201)), ("parts", 201))
        self.assertEqual(counted(" ".join(["skip"] * 1000)), ("parts", 1000))

    def test_empty_parts_count_too(self):
        self.assertEqual(place(" " * 199), 0)
        self.assertEqual(counted(" " * 200), ("parts", 201))

    def test_with_a_bad_part_besides(self):
        for at in (0, 7, 199):
            parts = ["skip"] * 200
            parts[at] = "!"
            self.assertEqual(place(" ".join(parts)), at)
            self.assertEqual(counted(" ".join(parts + ["skip"])), ("parts", 201))
        self.assertEqual(counted(" ".join(["loop", "{"] * 101)), ("parts", 202))

    def test_the_longest_program_is_let_by(self):
        text = " ".join(["if c v { } else { }"] * 24)
        self.assertEqual(len(text.split(" ")), 192)
        self.assertEqual(str(read_program(text)), text)


class HowManyStatements(unittest.TestCase):
    def test_twenty_four_and_one_more(self):
        self.assertEqual(len(read_program(" ".join(["skip"] * 24)).row), 24)
        self.assertEqual(counted(" ".join(["skip"] * 25)), ("statements", 25))
        self.assertIsNone(counted("loop { " + " ".join(["mark m"] * 23) + " }"))
        self.assertEqual(counted("loop { " + " ".join(["mark m"] * 24) + " }"), ("statements", 25))

    def test_counted_over_all_of_it(self):
        skips = " ".join(["skip"] * 26)
        self.assertEqual(counted("loop { " + skips + " } stop"), ("statements", 28))
        self.assertEqual(counted("choose { " + skips + " } or { " + skips + " }"), ("statements", 53))
        self.assertEqual(counted("if c v { skip } else { " + skips + " } stop stop"), ("statements", 30))

    def test_depth_six_and_seven(self):
        for word in ("loop {", "while c v {", "if c v { } else {", "choose { } or {"):
            with self.subTest(word):
                self.assertIsNone(counted(rows_deep(6, word)))
                self.assertEqual(counted(rows_deep(7, word)), ("depth", 7))
        self.assertIsNone(counted(" ".join(["if c v {"] * 5 + ["} else { }"] * 5)))
        self.assertEqual(counted(" ".join(["if c v {"] * 6 + ["} else { }"] * 6)), ("depth", 7))
        self.assertIsNone(counted(" ".join(["choose {"] * 5 + ["skip"] + ["} or { }"] * 5)))
        self.assertEqual(counted(" ".join(["choose {"] * 6 + ["skip"] + ["} or { }"] * 6)), ("depth", 7))

    def test_depth_over_all_of_it(self):
        self.assertEqual(counted("skip " + rows_deep(9) + " stop"), ("depth", 9))
        self.assertEqual(counted(rows_deep(7) + " " + rows_deep(9) + " " + rows_deep(8)), ("depth", 9))
        self.assertIsNone(counted(rows_deep(6) + " " + rows_deep(6)))

    def test_the_statements_come_ahead_of_the_depth(self):
        self.assertEqual(counted(" ".join([rows_deep(7)] + ["skip"] * 18)), ("depth", 7))
        self.assertEqual(counted(" ".join([rows_deep(7)] + ["skip"] * 19)), ("statements", 25))
        self.assertEqual(counted(rows_deep(51)), ("statements", 50))

    def test_a_bad_part_comes_first(self):
        self.assertEqual(place(" ".join(["skip"] * 30 + ["}"])), 30)
        self.assertEqual(place(" ".join(["!"] + ["skip"] * 30)), 0)
        self.assertEqual(place(rows_deep(8) + " }"), 21)
        self.assertEqual(place(" ".join(["loop {"] * 100)), 200)
        self.assertEqual(place(" ".join(["choose {"] * 30)), 60)


if __name__ == "__main__":
    unittest.main()
