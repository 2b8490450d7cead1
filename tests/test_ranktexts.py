"""Programs as texts, there and back: 2.4."""

import unittest

from exactbeats.errors import BadProgram, BadText, NoPrograms
from exactbeats.ranks import Program
from exactbeats.ranktexts import read_settings, settings_text
from tests.drawn import Drawn
from tests.odd import check_raises, odd_things
from tests.test_ranks import BAD_NAMES, FACTS, GOOD_NAMES, HIGH, SIGNS, chain, drawn_block, nested_ifs, num, of_parts

A = ("let", "a")
EXPRESSIONS = {
    "0": num(0), "7": num(7), "-7": num(-7), "10": num(10), str(HIGH): num(HIGH), str(-HIGH): num(-HIGH),
    "999999999999999999": num(HIGH - 1),
    **{fact: ("fact", fact) for fact in FACTS}, **{name: ("let", name) for name in GOOD_NAMES},
    **{f"out:{name}": ("keep", name) for name in GOOD_NAMES}, **{f"own:{name}": ("own", name) for name in GOOD_NAMES},
    "(not a)": ("not", A), "(not -5)": ("not", num(-5)), "(not (not a))": ("not", ("not", A)),
    **{f"(a {sign} out:b)": (sign, A, ("keep", "b")) for sign in SIGNS},
    "(a - -1)": ("-", A, num(-1)), "(-1 - a)": ("-", num(-1), A),
    "((a min b) max (not own:c))": ("max", ("min", A, ("let", "b")), ("not", ("own", "c"))),
    "((beat + 1) mod (held - (kind * 2)))": ("mod", ("+", ("fact", "beat"), num(1)),
                                            ("-", ("fact", "held"), ("*", ("fact", "kind"), num(2)))),
}
WRONG_NUMBERS = ("00", "01", "-0", "-00", "-01", "+1", "--1", "1_0", "1.", "1.0", "1e3", "0x1", "-", "- 1", "1 ",
                 str(HIGH + 1), str(-HIGH - 1), "9" * 19, "-" + "9" * 19, "1" + "0" * 19, "9" * 19000, "1a", "a1")
WRONG_EXPRESSIONS = (
    "", " ", "()", "(", ")", "(a", "a)", "(a)", "((a + b))", "( a + b)", "(a + b )", "(a  + b)", "(a +  b)", "(a+b)",
    "(a +b)", "(a+ b)", "a + b", " a", "a ", "(a + b) ", " (a + b)", "(a + b)(a + b)", "(a + b) + c", "(a + b + c)",
    "(+ a b)", "(a b +)", "(a b)", "(not)", "(not )", "not a", "(not a b)", "(a not b)", "(nota)", "(not(not a))",
    "(not ( not a))", "(not (not a ))", "(not (not a)", "(not (not a)))", ")a + b(", "(a % b)", "(a // b)", "(a > b)",
    "(a == b)", "(a <= b)", "(a ** b)", "(a Min b)", "(a MOD b)", "[a + b]", "(a; b)", "(a + )", "( + b)", "(a + +)",
    "(+ + +)", "(- 1)", "(-a)", "-a", "out:", "own:", "out: a", "out:1", "own:A", "out:out:a", "let:a", "keep:a",
    "out:beat", "own:min", "out:abcdefghi", "own:let", "Out:a", "out;a", "out.a", "a.b", "a_b", "a\tb", "(num 5)",
    "(let a)", "(fact beat)", "(keep a)", "(own a)", "(num let)", "(if a)", "(a rank b)", "let", "keep", "own", "if",
    "else", "do", "end", "rank", "out", "min", "max", "mod", "and", "or", "not", "+", "<", "=", "(" * 19000,
    ")" * 19000, "(a + " * 3000 + "b" + ")" * 3000, "(not " * 3000 + "a" + ")" * 3000, "()" * 9000,
    *[name for name in BAD_NAMES if "\n" not in name and name != "1" and name not in FACTS],
    *[f"out:{name}" for name in BAD_NAMES if "\n" not in name], *WRONG_NUMBERS)


def program(*statements):
    return Program(statements)


def text_of(expression):
    """An expression's text, told anew."""
    word, *sides = expression
    if word in ("num", "fact", "let", "keep", "own"):
        return {"keep": "out:", "own": "own:"}.get(word, "") + str(sides[0])
    told = [text_of(side) for side in sides]
    return f"(not {told[0]})" if word == "not" else f"({told[0]} {word} {told[1]})"


def drawn_programs(drawn):
    return tuple([Program(drawn_block(drawn, 1)) for _ in range(1 + drawn.below(12))])


class Texts(unittest.TestCase):
    def test_expressions(self):
        for text, expression in EXPRESSIONS.items():
            for statement, line in ((("rank", expression), f"rank {text}"),
                                    (("let", "x", expression), f"let x {text}"),
                                    (("keep", "y", expression), f"keep y {text}"),
                                    (("own", "z", expression), f"own z {text}")):
                self.assertEqual(settings_text((program(statement),)), f"out 0\n{line}\n")
                self.assertEqual(read_settings(f"out 0\n{line}\n"), (program(statement),))
            asked = ("if", expression, (), ())
            self.assertEqual(settings_text((program(asked),)), f"out 0\nif {text} do\nend\n")
            self.assertEqual(read_settings(f"out 0\nif {text} do\nend\n"), (program(asked),))

    def test_blocks(self):
        one, two = ("rank", num(1)), ("rank", num(2))
        for block, text in (
                ((), ""), ((one, two), "rank 1\nrank 2\n"),
                ((("if", A, (), ()), one), "if a do\nend\nrank 1\n"),
                ((("if", A, (one,), ()),), "if a do\nrank 1\nend\n"),
                ((("if", A, (), (one,)),), "if a do\nelse\nrank 1\nend\n"),
                ((("if", A, (one, two), (two, one)), one), "if a do\nrank 1\nrank 2\nelse\nrank 2\nrank 1\nend\nrank 1\n"),
                ((("if", A, (("if", num(0), (), (two,)), one), (("if", num(-1), (one,), ()),)),),
                 "if a do\nif 0 do\nelse\nrank 2\nend\nrank 1\nelse\nif -1 do\nrank 1\nend\nend\n")):
            self.assertEqual(settings_text((Program(block),)), f"out 0\n{text}")
            self.assertEqual(read_settings(f"out 0\n{text}"), (Program(block),))

    def test_outputs(self):
        for many in range(1, 13):
            programs = tuple([program(("rank", num(output))) for output in range(many)])
            text = "".join([f"out {output}\nrank {output}\n" for output in range(many)])
            self.assertEqual(settings_text(programs), text)
            self.assertEqual(read_settings(text), programs)
            self.assertIsInstance(read_settings(text), tuple)
            self.assertEqual(read_settings("".join([f"out {output}\n" for output in range(many)])), (Program(()),) * many)

    def test_there_and_back(self):
        drawn = Drawn(61)
        longest = 0
        for _ in range(150):
            programs = drawn_programs(drawn)
            text = settings_text(programs)
            longest = max(longest, len(text))
            self.assertEqual(read_settings(text), programs)
            self.assertEqual(settings_text(read_settings(text)), text)
        self.assertGreater(longest, 1000)

    def test_greatest_ones(self):
        deepest, widest = chain(6, "+"), of_parts(30)
        inner = nested_ifs(4, 1, (("rank", widest),))
        whole = tuple([Program((("own", "abcdefgh", deepest),) * 56 + inner)] * 12)
        text = settings_text(whole)
        self.assertGreater(len(text), 20000)
        self.assertEqual(read_settings(text), whole)
        self.assertIn(f"rank {text_of(widest)}\n", text)

    def test_no_programs(self):
        for thing in odd_things():
            if not isinstance(thing, tuple):
                check_raises(self, NoPrograms, {"output": -1}, settings_text, thing)
            if not isinstance(thing, Program):
                check_raises(self, NoPrograms, {"output": 0}, settings_text, (thing,))
                check_raises(self, NoPrograms, {"output": 2}, settings_text, (Program(()), Program(()), thing, thing))
        for thing in ((), (Program(()),) * 13, [Program(())]):
            check_raises(self, NoPrograms, {"output": -1}, settings_text, thing)


class Readings(unittest.TestCase):
    def wrong(self, line, *texts):
        for text in texts:
            check_raises(self, BadText, {"line": line}, read_settings, text)

    def test_no_string(self):
        for thing in odd_things():
            if not isinstance(thing, str):
                self.wrong(0, thing)
        self.wrong(0, b"out 0\n", ["out 0\n"], ("out 0\n",))

    def test_no_line_and_what_stands_behind_the_last_line_feed(self):
        self.wrong(1, "", "out 0", "rank 1", "x", " ")
        self.wrong(2, "out 0\nout 1", "out 0\nrank 1", "out 0\n ", "out 0\nx")
        self.wrong(3, "out 0\nrank 1\nrank 1", "out 0\nrank 1\nout 1")
        # An end that lacks, and both at once.
        self.wrong(3, "out 0\nif 1 do\n", "out 0\nif 1 do\nend", "out 0\nif 1 do\nrank 1")
        self.wrong(4, "out 0\nif 1 do\nelse\n", "out 0\nif 1 do\nif 2 do\n", "out 0\nif 1 do\nif 2 do\nend")
        self.wrong(5, "out 0\nif 1 do\nif 2 do\nend\n", "out 0\nif 1 do\nelse\nif 2 do\n")

    def test_the_first_wrong_line_goes_ahead_of_what_lacks(self):
        self.wrong(1, "x\nout 0", "rank 1\nout 0\nif 1 do\n", "\n", "\nout 0\n", "out 1\n")
        self.wrong(2, "out 0\nrank\nif 1 do\n", "out 0\nrank x x\nrank", "out 0\n\nrank 1\n")
        self.wrong(3, "out 0\nif 1 do\nrank 1.\n", "out 0\nif 1 do\nout 1\n")

    def test_lines_that_can_not_stand_there(self):
        for line in ("rank 1", "let a 1", "keep a 1", "own a 1", "if 1 do", "end", "else", "do", "out", "out 1", "out 2"):
            self.wrong(1, f"{line}\n", f"{line}\nout 0\n", f"{line}\nend\nout 0\n")
        for line in ("out 0", "out 2", "out 12", "out 01", "out  1", "out 1 ", "out -1", "out +1", "out", "out one",
                     "end", "else", "do", "if", "out 1:", "Out 1", "OUT 1", "out\t1"):
            self.wrong(2, f"out 0\n{line}\n")
        for line in ("out 1", "out 0", "out 2"):
            self.wrong(3, f"out 0\nif 1 do\n{line}\nend\n")
            self.wrong(4, f"out 0\nif 1 do\nelse\n{line}\nend\n")
        self.wrong(4, "out 0\nif 1 do\nelse\nelse\nend\n")
        self.wrong(5, "out 0\nif 1 do\nelse\nrank 1\nelse\nend\n")
        self.wrong(4, "out 0\nif 1 do\nend\nelse\nend\n", "out 0\nif 1 do\nend\nend\n")
        self.wrong(6, "out 0\nif 1 do\nif 1 do\nelse\nend\nif 1 do \nend\n")
        # An else behind an inner if that has ended is the outer one's.
        self.assertEqual(read_settings("out 0\nif 1 do\nif 2 do\nelse\nend\nelse\nrank 3\nend\n"), (program(
            ("if", num(1), (("if", num(2), (), ()),), (("rank", num(3)),))),))

    def test_an_else_with_nothing_behind_it_is_read(self):
        told = (program(("if", num(1), (("rank", num(2)),), ())),)
        self.assertEqual(read_settings("out 0\nif 1 do\nrank 2\nelse\nend\n"), told)
        self.assertEqual(read_settings("out 0\nif 1 do\nrank 2\nend\n"), told)
        self.assertEqual(settings_text(told), "out 0\nif 1 do\nrank 2\nend\n")

    def test_wrong_expressions(self):
        for text in WRONG_EXPRESSIONS:
            self.wrong(3, f"out 0\nrank 1\nrank {text}\n", f"out 0\nrank 1\nlet a {text}\n",
                       f"out 0\nrank 1\nown b {text}\nrank 1\n", f"out 0\nrank 1\nif {text} do\nend\n")
            self.wrong(2, f"out 0\nrank ({text} + 1)\n", f"out 0\nrank (1 + {text})\n", f"out 0\nkeep c (not {text})\n")

    def test_depth_and_parts(self):
        for word in ("not", "+"):
            for depth in range(1, 7):
                told = (program(("rank", chain(depth, word))),)
                self.assertEqual(read_settings(f"out 0\nrank {text_of(chain(depth, word))}\n"), told)
            for depth in (7, 8, 30):
                self.wrong(2, f"out 0\nrank {text_of(chain(depth, word))}\n",
                           f"out 0\nif {text_of(chain(depth, word))} do\nend\n")
        for right, wrong in ((("+", num(1), chain(5)), ("+", num(1), chain(6))), (("+", chain(5), A), ("+", chain(6), A))):
            self.assertEqual(read_settings(f"out 0\nrank {text_of(right)}\n"), (program(("rank", right)),))
            self.wrong(2, f"out 0\nrank {text_of(wrong)}\n")
        for parts in range(1, 31):
            told = (program(("keep", "a", of_parts(parts))),)
            self.assertEqual(read_settings(f"out 0\nkeep a {text_of(of_parts(parts))}\n"), told)
        for parts in (31, 32, 63):
            self.wrong(2, f"out 0\nkeep a {text_of(of_parts(parts))}\n")

    def test_wrong_statements(self):
        for line in ("rank", "rank ", "rank  1", " rank 1", "rank 1 ", "rank 1 2", "Rank 1", "rank1", "rank: 1",
                     "let", "let a", "let a ", "let  a 1", "let a  1", "let a = 1", "let 1 a", "let out:a 1", "let a 1 ",
                     "let let 1", "let beat 1", "let A 1", "let abcdefghi 1", "keep out:a 1", "own own:a 1", "out:a 1",
                     "leta 1", "set a 1", "rank a 1", "num a 1", "not a 1", "+ a 1", "if 1", "if do", "if  do",
                     "if 1 do ", "if 1  do", "if  1 do", "if 1do", "if1 do", " if 1 do", "if 1 Do", "if 1 then", "If 1 do",
                     "if 1 do 2", "if 1 do do", "if (1) do", "end ", " end", "End", "else ", "else if 1 do", "elif 1 do",
                     "", " ", "#", "rank 1;", ";", "\t", "rank\t1", "rank 1\r", "(rank 1)"):
            for text in (f"out 0\nif 0 do\n{line}\nend\n", f"out 0\nif 0 do\n{line}\nend\nrank x\nrank",
                         f"out 0\nif 0 do\n{line}"):
                self.wrong(3, text)
        for name in BAD_NAMES:
            if "\n" not in name:
                for word in ("let", "keep", "own"):
                    self.wrong(2, f"out 0\n{word} {name} 1\n")

    def test_bad_programs(self):
        deep = "if 1 do\n" * 4 + "end\n" * 4
        place = (0, 0, 0, 0, 0, 0, 0)
        check_raises(self, BadProgram, {"place": place}, read_settings, f"out 0\n{deep}")
        check_raises(self, BadProgram, {"place": (1,) + place[1:]}, read_settings, f"out 0\nout 1\nrank 1\n{deep}")
        check_raises(self, BadProgram, {"place": (0, 1, 0, 1, 0, 1, 0)}, read_settings,
                     "out 0\n" + "if 1 do\nelse\n" * 4 + "end\n" * 4)
        check_raises(self, BadProgram, {"place": ()}, read_settings, "out 0\n" + "rank 1\n" * 61)
        check_raises(self, BadProgram, {"place": ()}, read_settings, "out 0\nout 1\n" + "rank 1\n" * 61 + f"out 2\n{deep}")
        check_raises(self, BadProgram, {"place": place}, read_settings, f"out 0\nout 1\n{deep}out 2\n" + "rank 1\n" * 61)
        self.assertEqual(len(read_settings("out 0\n" + "rank 1\n" * 60)[0].block), 60)
        # Wrong lines go ahead of wrong programs.
        self.wrong(10, f"out 0\n{deep}rank\n")
        self.wrong(10, f"out 0\n{deep}rank 1")
        self.wrong(63, "out 0\n" + "rank 1\n" * 61 + "x\n")

    def test_more_than_12(self):
        self.assertEqual(len(read_settings("".join([f"out {output}\n" for output in range(12)]))), 12)
        for many in (13, 14, 100, 1200):
            text = "".join([f"out {output}\n" for output in range(many)])
            check_raises(self, NoPrograms, {"output": -1}, read_settings, text)
            check_raises(self, BadProgram, {"place": ()}, read_settings, text + "rank 1\n" * 61)
            self.wrong(many + 1, text + f"out {many - 1}\n", text + "out", text + "out 0012\n")

    def test_very_deep_texts(self):
        ifs = 1000
        text = "out 0\n" + "if 1 do\n" * ifs
        self.wrong(ifs + 2, text, text + "else")
        self.wrong(2 * ifs + 2, text + "end\n" * ifs + "end\n", text + "end\n" * ifs + "end")
        check_raises(self, BadProgram, {"place": (0, 0, 0, 0, 0, 0, 0)}, read_settings, text + "end\n" * ifs)
        check_raises(self, BadProgram, {"place": (0, 1, 0, 1, 0, 1, 0)}, read_settings,
                     "out 0\n" + "if 1 do\nelse\n" * ifs + "end\n" * ifs)

    def test_changed_texts_are_read_just_if_they_are_texts(self):
        """What is read is what the text tells: so it becomes the same text, but for an else with nothing behind."""
        drawn = Drawn(62)
        read = 0
        signs = "\n\n    ()()-09:abeilnortu+*/<=dkmpwx;,"
        for _ in range(25):
            text = settings_text(tuple([Program(drawn_block(drawn, 2)) for _ in range(2)]))
            for _ in range(120):
                at = drawn.below(len(text))
                other = text[:at] + drawn.among(["", signs[drawn.below(len(signs))]]) + text[at + drawn.below(2):]
                try:
                    programs = read_settings(other)
                except (BadText, BadProgram):
                    continue
                read += 1
                self.assertEqual(settings_text(programs), other.replace("else\nend\n", "end\n"))
        self.assertGreater(read, 300)


if __name__ == "__main__":
    unittest.main()
