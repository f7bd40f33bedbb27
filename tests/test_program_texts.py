"""Tests of answerparts/notation.py: point 18, the texts of programs."""

import unittest

from draws import Draws, drawn_program
from answerparts.errors import InvalidBlock, InvalidLists, InvalidText
from answerparts.notation import format_program, parse_program
from answerparts.programs import Program

LISTS = ("a", "b", "c")


def text_of(*lines):
    return "".join(line + "\n" for line in lines)


# Programs and their texts, line by line.
TEXTS = [
    (Program(("a",), ()), ("lists a", "pass")),
    (Program(("a", "b"), ()), ("lists a, b", "pass")),
    (Program(("a", "b", "c", "d"), ()), ("lists a, b, c, d", "pass")),
    (Program(("a",), (), ("a",)), ("lists a kept a", "pass")),
    (Program(LISTS, (), ("c", "b")), ("lists a, b, c kept b, c", "pass")),
    (Program(("c", "b", "a"), (), ("a", "b", "c")), ("lists c, b, a kept c, b, a", "pass")),
    (Program(("todo", "abcdefgh"), ()), ("lists todo, abcdefgh", "pass")),
    (Program(LISTS, (("send", "a", "b", "c", ()),)), ("lists a, b, c", "send a to b or c:", "  pass")),
    (Program(LISTS, (("keyed", "c", "b", "a", ()),)), ("lists a, b, c", "keyed c to b or a:", "  pass")),
    (Program(LISTS, (("look", "b", "b", "b", (("end",),)),)), ("lists a, b, c", "look b to b or b:", "  end")),
    (Program(LISTS, (("move", "a", "b"),)), ("lists a, b, c", "move a to b")),
    (Program(LISTS, (("part", "b", "a"),)), ("lists a, b, c", "part b to a")),
    (Program(LISTS, (("tell", "a", "done"),)), ("lists a, b, c", "tell a done")),
    (Program(LISTS, (("tell", "b", "failed"),)), ("lists a, b, c", "tell b failed")),
    (Program(LISTS, (("end",),)), ("lists a, b, c", "end")),
    (Program(LISTS, (("end",), ("end",), ("move", "a", "a"))), ("lists a, b, c", "end", "end", "move a to a")),
    (Program(LISTS, (("while", "a", ()),)), ("lists a, b, c", "while a:", "  pass")),
    (
        Program(LISTS, (("while", "c", (("end",), ("tell", "c", "done"))), ("end",))),
        ("lists a, b, c", "while c:", "  end", "  tell c done", "end"),
    ),
    *[
        (Program(LISTS, (("times", number, ()),)), ("lists a, b, c", f"times {number}:", "  pass"))
        for number in (0, 1, 2, 3)
    ],
    (Program(LISTS, (("if", "a", (), ()),)), ("lists a, b, c", "if a:", "  pass", "else:", "  pass")),
    (
        Program(LISTS, (("if", "a", (("end",),), ()), ("end",))),
        ("lists a, b, c", "if a:", "  end", "else:", "  pass", "end"),
    ),
    (
        Program(LISTS, (("if", "a", (("if", "b", (), (("end",),)),), (("while", "c", ()), ("move", "a", "b"))),)),
        (
            "lists a, b, c", "if a:", "  if b:", "    pass", "  else:", "    end", "else:", "  while c:", "    pass",
            "  move a to b",
        ),
    ),
    (
        Program(LISTS, (("times", 2, (("send", "a", "b", "c", (("part", "a", "b"), ("end",))),)), ("end",)), ("a",)),
        (
            "lists a, b, c kept a", "times 2:", "  send a to b or c:", "    part a to b", "    end", "end",
        ),
    ),
    (
        Program(LISTS, (("while", "a", (("if", "b", (), ()),)), ("if", "c", (("times", 1, ()),), ()))),
        (
            "lists a, b, c", "while a:", "  if b:", "    pass", "  else:", "    pass", "if c:", "  times 1:",
            "    pass", "else:", "  pass",
        ),
    ),
    # Names that are words of the notation.
    (
        Program(("kept", "to", "or", "lists"), (
            ("send", "to", "or", "kept", (("look", "or", "to", "or", ()),)), ("move", "to", "to"),
            ("part", "lists", "kept"), ("tell", "kept", "done"), ("while", "lists", ()), ("if", "or", (), ()),
        ), ("kept", "to")),
        (
            "lists kept, to, or, lists kept kept, to", "send to to or or kept:", "  look or to to or or:", "    pass",
            "move to to to", "part lists to kept", "tell kept done", "while lists:", "  pass", "if or:", "  pass",
            "else:", "  pass",
        ),
    ),
    (
        Program(("pass", "end", "else", "times"), (
            ("if", "else", (("while", "pass", ()),), (("tell", "end", "failed"),)), ("move", "end", "else"),
            ("keyed", "times", "end", "pass", ()),
        ), ("else",)),
        (
            "lists pass, end, else, times kept else", "if else:", "  while pass:", "    pass", "else:",
            "  tell end failed", "move end to else", "keyed times to end or pass:", "  pass",
        ),
    ),
    (Program(("kept",), ()), ("lists kept", "pass")),
    (Program(("kept",), (), ("kept",)), ("lists kept kept kept", "pass")),
    (Program(("a", "kept"), (), ("kept",)), ("lists a, kept kept kept", "pass")),
    (Program(("a", "kept"), (), ("a", "kept")), ("lists a, kept kept a, kept", "pass")),
    (Program(("kept", "a"), ()), ("lists kept, a", "pass")),
    (Program(("lists", "done"), (("tell", "done", "done"),)), ("lists lists, done", "tell done done")),
]


class Texts(unittest.TestCase):
    def test_the_texts_of_programs(self):
        for program, lines in TEXTS:
            with self.subTest(lines=lines):
                self.assertEqual(format_program(program), text_of(*lines))

    def test_reading_them_back(self):
        for program, lines in TEXTS:
            with self.subTest(lines=lines):
                found = parse_program(text_of(*lines))
                self.assertIs(type(found), Program)
                self.assertEqual(found, program)
                self.assertEqual([found.lists, found.block, found.kept], [program.lists, program.block, program.kept])

    def test_drawn_programs(self):
        for seed in range(900000, 900400):
            program = drawn_program(Draws(seed))
            self.assertEqual(parse_program(format_program(program)), program)

    def test_the_example_of_the_interface(self):
        block = (
            ("times", 2, (("send", "todo", "ok", "todo", ()),)), ("if", "todo", (("tell", "todo", "failed"),), ()),
            ("tell", "ok", "done"),
        )
        self.assertEqual(
            format_program(Program(("todo", "ok"), block, ("ok",))),
            "lists todo, ok kept ok\ntimes 2:\n  send todo to ok or todo:\n    pass\nif todo:\n  tell todo failed\n"
            "else:\n  pass\ntell ok done\n",
        )

    def test_kept_lists_in_another_order(self):
        self.assertEqual(parse_program("lists a, b, c kept c, a\npass\n").kept, ("a", "c"))


class Wrong(unittest.TestCase):
    def wrong(self, line, text):
        with self.subTest(text=text), self.assertRaises(InvalidText) as caught:
            parse_program(text)
        self.assertEqual(caught.exception.line, line, text)
        self.assertIs(type(caught.exception.line), int)

    def wrong_lines(self, line, *lines):
        """The line with this number is the first wrong one, whatever stands behind it."""
        self.wrong(line, text_of(*lines))
        if line <= len(lines):
            up_to = text_of(*lines[:line])
            for tail in ("", "pass\n", "\n", "  nothing", "else:\n", " end\n  pass\n", "lists a\npass\n"):
                self.wrong(line, up_to + tail)

    def wrong_statement(self, *lines):
        """The last one of these lines is wrong, wherever it stands as a statement."""
        many = len(lines)
        self.wrong_lines(1 + many, "lists a, b, c", *lines)
        self.wrong_lines(2 + many, "lists a, b, c", "end", *lines)
        within = tuple("  " + line for line in lines)
        self.wrong_lines(2 + many, "lists a, b, c", "while a:", *within)
        self.wrong_lines(4 + many, "lists a, b, c", "if a:", "  pass", "else:", *within)

    def test_texts_that_end_too_early(self):
        self.wrong(1, "")
        self.wrong_lines(2, "lists a")
        self.wrong_lines(3, "lists a", "while a:")
        self.wrong_lines(4, "lists a", "end", "times 2:")
        self.wrong_lines(3, "lists a", "if a:")
        self.wrong_lines(4, "lists a", "if a:", "  pass")
        self.wrong_lines(5, "lists a", "if a:", "  end", "  end")
        self.wrong_lines(5, "lists a", "if a:", "  pass", "else:")
        self.wrong_lines(4, "lists a", "send a to a or a:", "  if a:")
        self.wrong_lines(5, "lists a", "if a:", "  while a:", "    end")
        self.wrong_lines(5, "lists a", "if a:", "  if a:", "    pass")
        self.wrong_lines(7, "lists a", "if a:", "  if a:", "    pass", "  else:", "    pass")

    def test_a_last_line_without_a_line_feed(self):
        for program, lines in TEXTS:
            self.wrong(len(lines), text_of(*lines)[:-1])
            self.wrong(len(lines) + 1, text_of(*lines) + "end")
            self.wrong(len(lines) + 1, text_of(*lines) + " ")
        self.wrong(1, "lists a")
        self.wrong(1, "x")
        self.wrong(2, "lists a\nx")
        self.wrong(2, "lists a\nx\ny")

    def test_empty_lines(self):
        self.wrong_lines(1, "")
        self.wrong_lines(1, "", "lists a", "pass")
        self.wrong_lines(2, "lists a", "", "pass")
        self.wrong_lines(3, "lists a", "pass", "")
        self.wrong_lines(3, "lists a", "while a:", "", "  pass")
        self.wrong_lines(4, "lists a", "end", "end", "", "end")
        self.wrong_statement(" ")
        self.wrong_statement("  ")

    def test_the_line_of_the_lists(self):
        for line in (
            "lists", "lists ", " lists a", "  lists a", "lists  a", "lists a ", "Lists a", "list a", "a", "listsa",
            "lists a,b", "lists a b", "lists a, ", "lists a,", "lists , a", "lists a,, b", "lists a,  b", "lists a , b",
            "lists a;", "lists a:", "lists a kept", "lists a kept ", "lists a kept b,", "lists a  kept b",
            "lists a kept  b", "lists a, kept b", "lists kept kept", "lists a kept b c",
            "lists a kept b, ", "lists a kept b kept c", "lists a Kept b", "lists a keep b", "lists abcdefghi",
            "lists a, abcdefghi", "lists A", "lists a1", "lists a_b", "lists 1", "lists a kept B", "lists \u00e9",
            "lists a kept abcdefghi", "lists A kept b", "lists abcdefghi kept b", "lists a,b kept b", "lists a\t",
            "lists\ta", "lists a\r", "pass", "end", "lists a, b kept kept kept",
        ):
            self.wrong_lines(1, line, "pass")

    def test_no_block_of_a_second_line_of_lists(self):
        self.wrong_lines(2, "lists a", "lists a", "pass")
        self.wrong_lines(1, "end", "lists a", "pass")

    def test_blanks(self):
        self.wrong_lines(2, "lists a", " end")
        self.wrong_lines(2, "lists a", "  end")
        self.wrong_lines(2, "lists a", "  pass")
        self.wrong_lines(3, "lists a", "end", "  end")
        self.wrong_lines(3, "lists a", "end", " end")
        self.wrong_lines(3, "lists a", "while a:", "end")
        self.wrong_lines(3, "lists a", "while a:", " end")
        self.wrong_lines(3, "lists a", "while a:", "   end")
        self.wrong_lines(3, "lists a", "while a:", "    end")
        self.wrong_lines(3, "lists a", "while a:", "pass")
        self.wrong_lines(3, "lists a", "while a:", "\tend")
        self.wrong_lines(3, "lists a", "while a:", "\u00a0\u00a0end")
        self.wrong_lines(4, "lists a", "while a:", "  end", "    end")
        self.wrong_lines(4, "lists a", "while a:", "  while a:", "  end")
        self.wrong_lines(4, "lists a", "while a:", "  while a:", "end")
        self.wrong_lines(5, "lists a", "while a:", "  while a:", "    end", "   end")
        self.wrong_lines(4, "lists a", "if a:", "  pass", " else:")
        self.wrong_lines(5, "lists a", "if a:", "  pass", "else:", "pass")
        self.wrong_lines(5, "lists a", "if a:", "  pass", "else:", "    pass")
        for line in (
            "send  a to a or a:", "send a  to a or a:", "send a to  a or a:", "send a to a  or a:",
            "send a to a or  a:", "send a to a or a :", "send a to a or a: ", "move a to  b", "move  a to b",
            "move a to b ", "part a  to b",
            "tell a  done", "tell  a done", "tell a done ", "end ", "while  a:", "while a :", "while a: ", "times  2:",
            "times 2 :", "times 2: ", "if  a:", "if a :", "if a: ", "pass ", "move a to b\t", "end\r", "move\ta to b",
        ):
            self.wrong_statement(line)

    def test_else(self):
        # Alone.
        self.wrong_statement("else:")
        self.wrong_statement("end", "else:")
        self.wrong_statement("while a:", "  pass", "else:")
        self.wrong_statement("send a to a or a:", "  pass", "else:")
        self.wrong_statement("times 1:", "  pass", "else:")
        self.wrong_statement("if a:", "  pass", "else:", "  pass", "else:")
        self.wrong_statement("if a:", "  pass", "  else:")
        self.wrong_statement("if a:", "else:")
        self.wrong_statement("if a:", "  if a:", "    pass", "else:")
        self.wrong_statement("if a:", "  if a:", "  else:")
        self.wrong_statement("if a:", "  while a:", "else:")
        # Missing.
        self.wrong_statement("if a:", "  pass", "end")
        self.wrong_statement("if a:", "  pass", "pass")
        self.wrong_statement("if a:", "  pass", "if a:")
        self.wrong_statement("while a:", "  if a:", "    end", "end")
        self.wrong_statement("while a:", "  if a:", "    end", "  end")
        self.wrong_statement("while a:", "  if a:", "    end", "else:")
        # In another form.
        for line in ("else", "else :", "else: ", "Else:", "else a:", "else::"):
            self.wrong_statement("if a:", "  pass", line)

    def test_pass(self):
        self.wrong_statement("end", "pass")
        self.wrong_statement("while a:", "  pass", "  end")
        self.wrong_statement("while a:", "  pass", "  pass")
        self.wrong_statement("while a:", "  end", "  pass")
        self.wrong_statement("while a:", "  pass", "pass")
        self.wrong_statement("if a:", "  pass", "  end")
        self.wrong_statement("if a:", "  pass", "else:", "  end", "  pass")
        self.wrong_lines(3, "lists a", "pass", "pass")
        self.wrong_lines(3, "lists a", "pass", "end")
        self.wrong_lines(3, "lists a", "pass", "  end")
        for line in ("pass:", "Pass", "pass a", "passed"):
            self.wrong_statement(line)

    def test_numbers(self):
        for number in (
            "", "00", "01", "007", "1234567890", "0000000000", "-1", "+1", "1.0", "1_0", "a", "1a", "0x1", "\u0661",
            "\u00b2", "1e1", "two", "1 1", "0 ",
        ):
            self.wrong_statement(f"times {number}:")
        self.wrong_statement("times:")
        self.wrong_statement("times 2")

    def test_names(self):
        for name in ("abcdefghi", "A", "aB", "a1", "1", "a_b", "a-b", "", "a.", "\u00e9", "a,", "a:"):
            for line in (
                f"send {name} to a or a:", f"keyed a to {name} or a:", f"look a to a or {name}:", f"move {name} to a",
                f"move a to {name}", f"part {name} to a", f"part a to {name}", f"tell {name} done", f"tell a {name}",
                f"while {name}:", f"if {name}:",
            ):
                self.wrong_statement(line)

    def test_other_lines(self):
        for line in (
            "send a to a:", "send a to a or a", "send a or a to a:", "send a, a or a:", "send a to a or a or a:",
            "send:", "send", "Send a to a or a:", "keyed a to a or a", "look a to a:", "look a", "look a:",
            "move a to a:", "move a", "move a a", "move a or a", "move a to a to a", "move a, a", "part a",
            "part a to a:", "part a or a", "tell a", "tell", "tell a to done", "tell a done:", "tell a done done",
            "while a", "while:", "while", "while a b:", "while not a:", "if a", "if:", "if a, b:", "if", "end:",
            "end a", "ends", "End", "times a:", "loop a:", "a", "nothing", "# end", "end # all", "end;", "end; end",
            "lists a", "kept a", "to a", "or a:", ":", "1", "()", "('end',)", "send a to a or a::", "times 2::",
        ):
            self.wrong_statement(line)

    def test_the_first_wrong_line_counts(self):
        self.wrong_lines(2, "lists a", "nothing", "nothing")
        self.wrong_lines(2, "lists a", "nothing", "", "end", "  end")
        self.wrong_lines(3, "lists a", "end", "pass", "   end")
        self.wrong_lines(1, "list", "nothing")
        # Ahead of what point 3 says of the lines ahead.
        self.wrong_lines(3, "lists a, a", "tell b nothing", "nothing")
        self.wrong_lines(3, "lists a, a kept c", "times 4:", "")
        self.wrong_lines(3, "lists a, b, c, d, e", "move f to g", " end")


class OfTheForm(unittest.TestCase):
    def test_lists_that_are_not_right(self):
        for line in (
            "lists a, a", "lists a, b, a", "lists a, b, c, d, e", "lists a kept b", "lists a, b kept a, a",
            "lists a kept a, a", "lists kept kept a", "lists a, b kept c, a",
        ):
            with self.subTest(line), self.assertRaises(InvalidLists):
                parse_program(text_of(line, "tell nothing nothing"))

    def wrong_block(self, path, *lines):
        with self.subTest(lines=lines), self.assertRaises(InvalidBlock) as caught:
            parse_program(text_of("lists a, b", *lines))
        self.assertEqual(caught.exception.path, path)

    def test_blocks_that_are_not_right(self):
        for line in (
            "tell a told", "tell a to", "tell a pass", "tell a abcdefgh", "tell c done", "tell a a", "move a to c",
            "move c to a", "part c to a", "part a to todo",
        ):
            self.wrong_block((0,), line)
            self.wrong_block((1,), "end", line, "tell d done")
            self.wrong_block((0, 0, 0), "while a:", "  " + line)
            self.wrong_block((0, 1, 1), "if a:", "  end", "else:", "  end", "  " + line)
        for line in (
            "send c to a or a:", "send a to c or a:", "send a to a or c:", "keyed a to c or b:", "look a to b or d:",
            "while c:", "times 4:", "times 10:", "times 100:", "times 123456789:", "times 999999999:",
        ):
            self.wrong_block((0,), line, "  tell a told")
        self.wrong_block((0,), "if c:", "  pass", "else:", "  pass")

    def test_nested_too_deep(self):
        self.wrong_block((0, 0, 0, 0, 0, 0, 0), "while a:", "  while a:", "    while a:", "      end")
        self.wrong_block((0, 0, 0, 0, 0), "while a:", "  while a:", "    tell a told", "  while a:", "    end")
        lines = ["  " * depth + "while a:" for depth in range(5000)] + ["  " * 5000 + "end"]
        with self.assertRaises(InvalidBlock) as caught:
            parse_program(text_of("lists a", *lines))
        self.assertEqual(caught.exception.path, (0, 0, 0, 0, 0, 0, 0))

    def test_too_many_statements(self):
        self.assertEqual(len(parse_program(text_of("lists a, b", *["end"] * 20))), 20)
        self.wrong_block((), *["end"] * 21)
        self.wrong_block((), "while a:", *["  end"] * 20)
        self.wrong_block((), *["end"] * 1000)

    def test_what_was_passed_is_read_again(self):
        for program, lines in TEXTS:
            text = text_of(*lines)
            self.assertEqual(parse_program(text), parse_program(text))
            self.assertEqual(format_program(program), format_program(program))


if __name__ == "__main__":
    unittest.main()
