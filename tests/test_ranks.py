"""Expressions, statements, programs, rankers: 2.1 to 2.3."""

import unittest

from exactbeats.cells import Cell
from exactbeats.errors import BadProgram, NoCell, NoNumber, NoOutput, NoPrograms
from exactbeats.ranks import Program, Ranker
from tests.drawn import Drawn
from tests.odd import check_raises, not_integers_from, odd_things, with_each

HIGH = 10 ** 18
CELL = Cell(7, 3, 42, 5, (0, 2, 11))
WORDS = "let keep own if else do end rank out min max mod and or not".split()
FACTS = "beat line output stream kind copies held".split()
SIGNS = "+ - * / mod min max < = and or".split()
GOOD_NAMES = ("a", "z", "n", "abcdefgh", "zzzzzzzz", "lets", "le", "num", "fact", "beats", "iff", "true", "none")
BAD_NAMES = ("", "abcdefghi", "A", "aB", "a1", "1", "_", "a_b", "a b", " a", "a ", "a\n", "-", "+", "a" * 20000,
             chr(228), chr(945), chr(97 + 65248), "a" + chr(0x301), *WORDS, *FACTS)


def num(number):
    return ("num", number)


def rank(expression):
    return Program((("rank", expression),))


def ranked(*statements):
    """The rank that statements give to CELL."""
    return Ranker((Program(statements),)).rank(0, CELL, 0, 0)


def reckoned(expression):
    return ranked(("rank", expression))


def chain(depth, word="not"):
    """An expression so deep."""
    expression = num(1)
    for _ in range(depth - 1):
        expression = ("not", expression) if word == "not" else (word, expression, num(1))
    return expression


def of_parts(parts):
    """An expression of so many parts, as flat as can be."""
    if parts == 1:
        return num(1)
    if parts == 2:
        return ("not", num(1))
    left = (parts - 1) // 2
    return ("+", of_parts(left), of_parts(parts - 1 - left))


def nested_ifs(depth, side, inside=()):
    """A block so deep, whose innermost one holds what is told."""
    block = inside
    for _ in range(depth - 1):
        block = (("if", num(1), block, ()) if side == 0 else ("if", num(1), (), block),)
    return block


class Wrong(Exception):
    """A run is wrong."""


def plainly(expression, facts, tables):
    """2.1 told anew, with an exception for what is wrong."""
    word, *sides = expression
    if word == "num":
        return sides[0]
    if word == "fact":
        return facts[sides[0]]
    if word in tables:
        return tables[word].get(sides[0], 0)
    a, *rest = [plainly(side, facts, tables) for side in sides]
    if word == "not":
        return int(not a)
    b = rest[0]
    if word in ("/", "mod") and b == 0:
        raise Wrong()
    number = {"+": lambda: a + b, "-": lambda: a - b, "*": lambda: a * b, "/": lambda: a // b, "mod": lambda: a % b,
              "min": lambda: min(a, b), "max": lambda: max(a, b), "<": lambda: int(a < b), "=": lambda: int(a == b),
              "and": lambda: int(bool(a and b)), "or": lambda: int(bool(a or b))}[word]()
    if not -HIGH <= number <= HIGH:
        raise Wrong()
    return number


class Told(Exception):
    """A rank is met."""


def run_plainly(block, facts, tables):
    for statement in block:
        if statement[0] == "rank":
            raise Told(plainly(statement[1], facts, tables))
        if statement[0] == "if":
            run_plainly(statement[2] if plainly(statement[1], facts, tables) else statement[3], facts, tables)
        else:
            tables[statement[0]][statement[1]] = plainly(statement[2], facts, tables)


class PlainRanker:
    """2.3 told anew."""

    def __init__(self, blocks):
        self.blocks = blocks
        self.keeps = {}
        self.owns = {}

    def rank(self, beat, cell, output, held):
        facts = {"beat": beat, "line": cell.at_line, "output": output, "stream": cell.of_stream, "kind": cell.of_kind,
                 "copies": len(cell.to_outs), "held": held}
        owner = (output, cell.of_stream)
        tables = {"let": {}, "keep": dict(self.keeps.get(output, {})), "own": dict(self.owns.get(owner, {}))}
        told = 0
        try:
            run_plainly(self.blocks[output], facts, tables)
        except Told as met:
            told = met.args[0]
        except Wrong:
            return HIGH
        self.keeps[output], self.owns[owner] = tables["keep"], tables["own"]
        return told


def drawn_expression(drawn, depth, bounds=(-2, -1, 0, 0, 1, 2, 3, 7, HIGH - 1, -HIGH)):
    if depth == 1 or drawn.flag(1, 4):
        word = drawn.among(["num", "num", "fact", "let", "keep", "own"])
        return (word, drawn.among({"num": bounds, "fact": FACTS}.get(word, ("a", "b"))))
    if drawn.flag(1, 8):
        return ("not", drawn_expression(drawn, depth - 1))
    return (drawn.among(SIGNS), drawn_expression(drawn, depth - 1), drawn_expression(drawn, depth - 1))


def drawn_block(drawn, depth):
    block = []
    for _ in range(drawn.below(4)):
        word = drawn.among(["let", "keep", "own", "keep", "own", "if", "if", "rank"])
        if word == "if" and depth < 4:
            first, other = [drawn_block(drawn, depth + 1) for _ in range(2)]
            block.append(("if", drawn_expression(drawn, 3), first, other))
        elif word == "rank":
            block.append(("rank", drawn_expression(drawn, 4)))
        elif word != "if":
            block.append((word, drawn.among("ab"), drawn_expression(drawn, 3)))
    return tuple(block)


class Expressions(unittest.TestCase):
    def right(self, expression):
        for statement in (("rank", expression), ("let", "a", expression), ("keep", "a", expression),
                          ("own", "a", expression), ("if", expression, (), ())):
            self.assertEqual(Program((statement,)).block, (statement,))

    def wrong(self, expression):
        for statement in (("rank", expression), ("let", "a", expression), ("keep", "a", expression),
                          ("own", "a", expression), ("if", expression, (), ())):
            check_raises(self, BadProgram, {"place": (0,)}, Program, (statement,))

    def test_numbers(self):
        for number in (0, 1, -1, HIGH, -HIGH):
            self.right(num(number))
            self.assertEqual(reckoned(num(number)), number)
        for thing in not_integers_from(-HIGH, HIGH):
            self.wrong(num(thing))

    def test_facts(self):
        ranker = Ranker(tuple([rank(("fact", fact)) for fact in FACTS]))
        self.assertEqual([ranker.rank(99, CELL, output, 10 + output) for output in range(7)],
                         [99, 3, 2, 42, 5, 3, 16])
        for thing in [*odd_things(), "beats", "Beat", "num", "let", "a", "beat ", b"beat", 0, ("beat",)]:
            self.wrong(("fact", thing))

    def test_names(self):
        for name in GOOD_NAMES:
            for word in ("let", "keep", "own"):
                self.right((word, name))
                self.assertEqual(ranked((word, name, num(8)), ("rank", (word, name))), 8)
        for name in BAD_NAMES:
            for word in ("let", "keep", "own"):
                self.wrong((word, name))
                check_raises(self, BadProgram, {"place": (0,)}, Program, ((word, name, num(1)),))
        for name in [thing for thing in odd_things() if thing != "number"]:
            for word in ("let", "keep", "own"):
                self.wrong((word, name))
                check_raises(self, BadProgram, {"place": (0,)}, Program, ((word, name, num(1)),))

    def test_forms(self):
        for thing in [*odd_things(), (), "num", 1, "a", ("num",), ("num", 1, 1), ["num", 1], ("fact",), ("let",), ("not",),
                      ("let", "a", num(1)), ("not", num(1), num(1)), ["not", num(1)], ("+", num(1)), ("rank", num(1)),
                      ("+", num(1), num(1), num(1)), ["+", num(1), num(1)], ("+", [*num(1)], num(1)), ("num", num(1)),
                      ("%", num(1), num(1)), ("//", num(1), num(1)), ("-", num(1)), ("MOD", num(1), num(1)),
                      (">", num(1), num(1)), ("==", num(1), num(1)), (b"+", num(1), num(1)), ("if", num(1), (), ()),
                      ((), num(1), num(1)), (0, 1), (True, 1), ("out", "a"), ("num", 1, None), (("num",), 1)]:
            self.wrong(thing)
        for sign in SIGNS:
            self.right((sign, num(1), num(1)))
            for thing in odd_things():
                self.wrong((sign, num(1), thing))
                self.wrong((sign, thing, num(1)))
        for thing in odd_things():
            self.wrong(("not", thing))

    def test_at_most_6_deep(self):
        for word in ("not", "+"):
            self.right(chain(6, word))
            self.wrong(chain(7, word))
            self.wrong(chain(40, word))
        self.right(("+", chain(5), num(1)))
        self.wrong(("+", num(1), chain(6)))
        self.wrong(("+", chain(6), num(1)))
        for leaf in (("fact", "beat"), ("let", "a"), ("keep", "a"), ("own", "a")):
            self.right(("not", ("not", ("not", ("not", ("not", leaf))))))
            self.wrong(("not", ("not", ("not", ("not", ("not", ("not", leaf)))))))

    def test_at_most_30_parts(self):
        for parts in range(1, 31):
            self.right(of_parts(parts))
        for parts in (31, 32, 63):
            self.wrong(of_parts(parts))

    def test_reckoned_as_python_does(self):
        for sign, a, b, told in (
                ("+", 2, 3, 5), ("-", 2, 3, -1), ("*", -2, 3, -6), ("/", 7, 2, 3), ("/", -7, 2, -4), ("/", 7, -2, -4),
                ("/", -7, -2, 3), ("mod", 7, 3, 1), ("mod", -7, 3, 2), ("mod", 7, -3, -2), ("mod", -7, -3, -1),
                ("min", 2, 3, 2), ("min", 3, -2, -2), ("max", 2, 3, 3), ("max", 3, -2, 3), ("<", 2, 3, 1),
                ("<", 3, 2, 0), ("<", 2, 2, 0), ("=", 2, 2, 1), ("=", 2, 3, 0), ("and", 2, -3, 1), ("and", 0, 3, 0),
                ("and", 3, 0, 0), ("and", 0, 0, 0), ("or", 2, 3, 1), ("or", 0, -3, 1), ("or", -3, 0, 1),
                ("or", 0, 0, 0), ("/", 0, 5, 0), ("mod", 0, 5, 0)):
            answer = reckoned((sign, num(a), num(b)))
            self.assertEqual((answer, answer.__class__), (told, int), (sign, a, b))
        for a, told in ((0, 1), (1, 0), (-5, 0), (HIGH, 0)):
            self.assertEqual(reckoned(("not", num(a))), told)

    def test_beyond_the_bounds(self):
        for expression, told in (
                (("+", num(HIGH - 1), num(1)), HIGH), (("-", num(1 - HIGH), num(1)), -HIGH),
                (("*", num(10 ** 9), num(-10 ** 9)), -HIGH), (("/", num(-HIGH), num(-1)), HIGH),
                (("max", num(HIGH), num(-HIGH)), HIGH), (("min", num(HIGH), num(-HIGH)), -HIGH)):
            self.assertEqual(reckoned(expression), told)
        for expression in (("+", num(HIGH), num(1)), ("+", num(-HIGH), num(-1)), ("-", num(-HIGH), num(1)),
                           ("-", num(HIGH), num(-1)), ("*", num(10 ** 9), num(10 ** 9 + 1)),
                           ("*", num(-10 ** 9), num(10 ** 9 + 1)), ("*", num(HIGH), num(HIGH)),
                           ("*", num(HIGH), num(-HIGH))):
            self.assertEqual(ranked(("let", "a", expression), ("rank", num(5))), HIGH)
            # Amid an expression that would be small again.
            self.assertEqual(reckoned(("*", expression, num(0))), HIGH)
            self.assertEqual(reckoned(("not", expression)), HIGH)

    def test_what_is_wrong_on_one_side_is_wrong(self):
        bad = (("/", num(1), num(0)), ("mod", num(1), num(0)), ("/", num(0), num(0)), ("mod", num(0), num(0)),
               ("+", num(HIGH), num(1)))
        for wrong in bad:
            self.assertEqual(reckoned(wrong), HIGH)
            for sign in SIGNS:
                for other in (0, 1, -HIGH):
                    for expression in ((sign, num(other), wrong), (sign, wrong, num(other))):
                        self.assertEqual(ranked(("let", "a", expression), ("rank", num(5))), HIGH)

    def test_drawn_ones_as_told_anew(self):
        drawn = Drawn(1)
        wrong = 0
        for _ in range(1500):
            expression = drawn_expression(drawn, 4)
            facts = {"beat": 1, "line": 3, "output": 0, "stream": 42, "kind": 5, "copies": 3, "held": 6}
            try:
                told = plainly(expression, facts, {"let": {}, "keep": {}, "own": {}})
            except Wrong:
                told = HIGH
                wrong += 1
            self.assertEqual(Ranker((rank(expression),)).rank(1, CELL, 0, 6), told, expression)
        self.assertTrue(100 < wrong < 1400)


class Programs(unittest.TestCase):
    def test_block_is_kept(self):
        for block in ((), (("rank", num(1)),), (("let", "a", num(1)), ("if", num(1), (("rank", num(1)),), ()))):
            self.assertEqual(Program(block).block, block)
            self.assertIsInstance(Program(block).block, tuple)

    def test_no_tuple(self):
        for thing in odd_things():
            if not isinstance(thing, tuple):
                check_raises(self, BadProgram, {"place": ()}, Program, thing)
        check_raises(self, BadProgram, {"place": ()}, Program, [("rank", num(1))])

    def test_no_statements(self):
        right = ("rank", num(1))
        wrong = [*odd_things(), (), num(1), ("rank",), ["rank", num(1)], ("rank", num(1), num(1)), ("rank", 1),
                 ("let", "a"), ("let", num(1)), ("let", "a", num(1), ()), ["let", "a", num(1)], ("let", "a", 1),
                 ("if", num(1), ()), ("if", num(1), (), (), ()), ("if", num(1), [], ()), ("if", num(1), (), []),
                 ("if", num(1), (), None), ("if", 1, (), ()), ["if", num(1), (), ()], ("out", "a", num(1)),
                 ("else",), ("end",), ("do", "a", num(1)), ("Let", "a", num(1)), (b"rank", num(1)), ("if",),
                 ("rank", ())]
        for thing in wrong:
            check_raises(self, BadProgram, {"place": (0,)}, Program, (thing,))
            check_raises(self, BadProgram, {"place": (1,)}, Program, (right, thing, right))
            check_raises(self, BadProgram, {"place": (1,)}, Program, (right, thing, thing))
            check_raises(self, BadProgram, {"place": (59999,)}, Program, (right,) * 59999 + (thing,))
            check_raises(self, BadProgram, {"place": (0, 0, 1)}, Program, (
                ("if", num(0), (right, thing), (thing,)), thing))
            check_raises(self, BadProgram, {"place": (0, 1, 0)}, Program, (("if", num(0), (right,), (thing, right)),))
            check_raises(self, BadProgram, {"place": (1, 1, 0, 0, 1)}, Program, (
                right, ("if", num(0), (), (("if", num(1), (right, thing), (thing,)), thing)), thing))

    def test_a_wrong_if_is_told_ahead_of_what_stands_within(self):
        wrong = ("rank", 1)
        for statement in (("if", 1, (wrong,), ()), ("if", num(1), (wrong,), []), ("if", num(1), (wrong,), None),
                          ("if", num(1), [wrong], (wrong,)), ("if", num(1), (wrong,), (), ()), ("if", num(1), (wrong,)),
                          ("If", num(1), (wrong,), ())):
            check_raises(self, BadProgram, {"place": (1,)}, Program, (("rank", num(1)), statement))
            check_raises(self, BadProgram, {"place": (0, 1, 0)}, Program, (("if", num(1), (), (statement,)),))

    def test_blocks_at_most_4_deep(self):
        last = (("rank", num(1)),)
        for side in (0, 1):
            for inside in ((), last):
                self.assertEqual(Program(nested_ifs(4, side, inside)).block, nested_ifs(4, side, inside))
            for inside in ((), last, (None,)):
                for depth in (5, 6, 7):
                    check_raises(self, BadProgram, {"place": (0, side, 0, side, 0, side, 0)}, Program,
                                 nested_ifs(depth, side, inside))
            check_raises(self, BadProgram, {"place": (0, side, 0, side, 0, side, 0)}, Program,
                         nested_ifs(4, side, (None,)))
        # Beyond the fourth block nothing is looked into.
        check_raises(self, BadProgram, {"place": (0, 0, 0, 1, 0, 1, 1)}, Program, (
            ("if", num(1), (("if", num(1), (), (("if", num(1), (), (last[0], ("if", num(1), (), ()))),)),), ()),))

    def test_at_most_60_statements(self):
        right = ("let", "a", num(1))
        self.assertEqual(len(Program((right,) * 60).block), 60)
        inner = ("if", num(1), (right,) * 28, (right,) * 28)
        self.assertEqual(Program((inner, right, right, right)).block[0], inner)
        for block in ((right,) * 61, (inner,) + (right,) * 4, (("if", num(1), (inner,), (right,) * 3),),
                      (right, right, ("if", num(1), (), (inner, right))), (right,) * 15000):
            check_raises(self, BadProgram, {"place": ()}, Program, block)
        self.assertEqual(len(Program((("if", num(1), (), ()),) * 60).block), 60)
        check_raises(self, BadProgram, {"place": ()}, Program, (("if", num(1), (), ()),) * 61)

    def test_too_many_are_told_behind_all_that_is_wrong_otherwise(self):
        right = ("let", "a", num(1))
        check_raises(self, BadProgram, {"place": (61,)}, Program, (right,) * 61 + (None,))
        check_raises(self, BadProgram, {"place": (61, 1, 2)}, Program, (
            (right,) * 61 + (("if", num(1), (), (right, right, None)),)))

    def test_equal_just_if_the_block_is(self):
        block = (("let", "a", num(1)),)
        self.assertTrue(Program(block) == Program((("let", "a", num(1)),)))
        self.assertFalse(Program(block) != Program(block))
        for other in ((), (("let", "a", num(2)),), (("let", "b", num(1)),), (("keep", "a", num(1)),), block * 2):
            self.assertFalse(Program(block) == Program(other))
            self.assertTrue(Program(block) != Program(other))
        for thing in [*odd_things(), block, list(block), BadProgram(())]:
            if not isinstance(thing, Program):
                self.assertFalse(Program(block) == thing)
                self.assertFalse(thing == Program(block))
                self.assertFalse(Program(()) == thing)


class Runs(unittest.TestCase):
    def test_rank_0_if_none_is_met(self):
        self.assertEqual(ranked(), 0)
        self.assertEqual(ranked(("let", "a", num(4)), ("keep", "a", num(4)), ("own", "a", num(4))), 0)
        self.assertEqual(ranked(("if", num(0), (("rank", num(4)),), ())), 0)

    def test_first_rank_that_is_met(self):
        self.assertEqual(ranked(("rank", num(1)), ("rank", num(2))), 1)
        self.assertEqual(ranked(("if", num(0), (("rank", num(1)),), (("rank", num(2)), ("rank", num(3)))),
                                ("rank", num(4))), 2)
        self.assertEqual(ranked(("if", num(-1), (("rank", num(1)),), (("rank", num(2)),)), ("rank", num(4))), 1)
        self.assertEqual(ranked(("if", num(2), (("let", "a", num(9)),), ()), ("rank", ("let", "a"))), 9)
        self.assertEqual(ranked(*nested_ifs(4, 1, (("rank", num(1)),)), ("rank", num(4))), 4)
        self.assertEqual(ranked(*nested_ifs(4, 0, (("rank", num(1)),)), ("rank", num(4))), 1)

    def test_nothing_is_done_behind_the_rank(self):
        ranker = Ranker((Program((("keep", "a", num(1)), ("if", num(1), (("rank", num(3)), ("keep", "b", num(1))), ()),
                                  ("keep", "c", num(1)), ("let", "d", ("/", num(1), num(0))))),))
        self.assertEqual(ranker.rank(0, CELL, 0, 0), 3)
        self.assertEqual(ranker.kept(0), {"a": 1})

    def test_let_is_of_one_run_alone(self):
        ranker = Ranker((Program((("let", "a", ("+", ("let", "a"), num(1))), ("rank", ("let", "a")))),))
        self.assertEqual([ranker.rank(beat, CELL, 0, 0) for beat in range(3)], [1, 1, 1])

    def test_let_keep_and_own_are_apart(self):
        self.assertEqual(ranked(("let", "a", num(1)), ("keep", "a", num(20)), ("own", "a", num(300)),
                                ("rank", ("+", ("let", "a"), ("+", ("keep", "a"), ("own", "a"))))), 321)

    def test_keep_is_of_the_output_own_of_its_stream(self):
        count = Program((("keep", "n", ("+", ("keep", "n"), num(1))), ("own", "n", ("+", ("own", "n"), num(10))),
                         ("rank", ("+", ("keep", "n"), ("own", "n")))))
        ranker = Ranker((count, count))
        cells = [Cell(0, 0, stream, 0, (0,)) for stream in (0, 99)]
        told = [ranker.rank(0, cells[stream], output, 0) for stream, output in ((0, 0), (0, 0), (1, 0), (0, 1), (1, 0))]
        self.assertEqual(told, [11, 22, 13, 11, 24])
        self.assertEqual((ranker.kept(0), ranker.kept(1)), ({"n": 4}, {"n": 1}))
        self.assertEqual([ranker.owned(output, stream) for output in (0, 1) for stream in (0, 99, 1)],
                         [{"n": 20}, {"n": 20}, {}, {"n": 10}, {}, {}])

    def test_a_wrong_run_keeps_what_was_held_ahead_of_it(self):
        for wrong in (("let", "x", ("/", num(1), num(0))), ("keep", "a", ("mod", num(1), num(0))),
                      ("own", "a", ("*", num(HIGH), num(2))), ("if", ("+", num(-HIGH), num(-1)), (), ()),
                      ("rank", ("-", num(-HIGH), num(1))),
                      ("if", num(1), (("keep", "b", num(6)), ("rank", ("/", num(0), num(0)))), ())):
            block = (("if", ("fact", "beat"), (("keep", "a", num(5)), ("own", "a", num(5)), wrong), ()),
                     ("keep", "a", ("+", ("keep", "a"), num(1))), ("own", "b", ("+", ("own", "b"), num(1))),
                     ("rank", num(4)))
            ranker = Ranker((Program(block),))
            self.assertEqual([ranker.rank(beat, CELL, 0, 0) for beat in (1, 0, 1, 1, 0)], [HIGH, 4, HIGH, HIGH, 4])
            self.assertEqual((ranker.kept(0), ranker.owned(0, 42)), ({"a": 2}, {"b": 2}))

    def test_numbers_that_are_0_are_not_told(self):
        ranker = Ranker((Program((("keep", "a", ("fact", "beat")), ("own", "b", ("fact", "beat")),
                                  ("keep", "c", num(-1)))),))
        for beat, kept, owned in ((0, {"c": -1}, {}), (3, {"a": 3, "c": -1}, {"b": 3}), (0, {"c": -1}, {})):
            ranker.rank(beat, CELL, 0, 0)
            self.assertEqual((ranker.kept(0), ranker.owned(0, 42)), (kept, owned))

    def test_facts_are_those_of_each_run(self):
        ranker = Ranker((rank(("fact", "held")),) * 11 + (rank(("+", ("*", ("fact", "stream"), num(1000)),
                                                                ("fact", "output"))),))
        self.assertEqual(ranker.rank(8, CELL, 11, 4), 42011)
        self.assertEqual(ranker.rank(8, Cell(0, 0, 7, 0, (0,)), 11, 4), 7011)
        self.assertEqual(ranker.rank(10 ** 9, CELL, 0, HIGH), HIGH)
        self.assertEqual(ranker.rank(0, CELL, 1, 0), 0)

    def test_beats_and_what_is_held_go_up_to_the_greatest_number(self):
        for fact in ("beat", "held"):
            ranker = Ranker((rank(("fact", fact)), Program((("keep", "n", ("fact", fact)),))))
            for number in (0, 10 ** 9, 10 ** 9 + 1, 10 ** 12, HIGH - 1, HIGH):
                passed = (number, CELL, 0, 0) if fact == "beat" else (0, CELL, 0, number)
                self.assertEqual(ranker.rank(*passed), number)
                ranker.rank(*passed[:2], 1, passed[3])
                self.assertEqual(ranker.kept(1), {"n": number} if number else {})
            # One more than that is beyond the numbers of the tongue: so the run is wrong, and keeps nothing.
            self.assertEqual(Ranker((rank(("+", ("fact", fact), num(1))),)).rank(HIGH, CELL, 0, HIGH), HIGH)
            self.assertEqual(Ranker((rank(("-", ("fact", fact), num(1))),)).rank(HIGH, CELL, 0, HIGH), HIGH - 1)

    def test_drawn_programs_as_told_anew(self):
        drawn = Drawn(2)
        ranks = set()
        for _ in range(300):
            blocks = [drawn_block(drawn, 1) for _ in range(2)]
            ranker, plain = Ranker(tuple([Program(block) for block in blocks])), PlainRanker(blocks)
            for beat in range(8):
                cell = Cell(beat, drawn.below(12), drawn.below(2), drawn.below(8), drawn.lot(12, 1 + drawn.below(3)))
                output, held = drawn.below(2), drawn.below(5)
                ranks.add(plain.rank(beat, cell, output, held))
                ranker.rank(beat, cell, output, held)
                self.assertEqual(ranker.copy().rank(beat, cell, output, held),
                                 plain_again(plain, beat, cell, output, held))
                for each in range(2):
                    self.assertEqual(ranker.kept(each), not_0(plain.keeps.get(each, {})))
                    for stream in range(2):
                        self.assertEqual(ranker.owned(each, stream), not_0(plain.owns.get((each, stream), {})))
        self.assertLessEqual({0, 1, HIGH}, ranks)
        self.assertGreater(len(ranks), 12)


def plain_again(plain, beat, cell, output, held):
    """The rank that a plain ranker would give, which it doesn't give."""
    other = PlainRanker(plain.blocks)
    other.keeps, other.owns = dict(plain.keeps), dict(plain.owns)
    return other.rank(beat, cell, output, held)


def not_0(table):
    return {name: number for name, number in table.items() if number}


def counting():
    return Program((("keep", "n", ("+", ("keep", "n"), num(1))), ("own", "m", ("+", ("own", "m"), num(2))),
                    ("rank", ("keep", "n"))))


class Rankers(unittest.TestCase):
    def test_1_to_12_programs(self):
        for many in (1, 12):
            ranker = Ranker((rank(num(7)),) * many)
            self.assertEqual(ranker.rank(0, CELL, many - 1, 0), 7)
            check_raises(self, NoOutput, {}, ranker.rank, 0, CELL, many, 0)

    def test_no_programs(self):
        ranker = Ranker((Program(()),) * 2)
        for thing in odd_things():
            if not isinstance(thing, tuple):
                check_raises(self, NoPrograms, {"output": -1}, Ranker, thing)
                check_raises(self, NoPrograms, {"output": -1}, ranker.turned, thing)
            if not isinstance(thing, Program):
                check_raises(self, NoPrograms, {"output": 0}, Ranker, (thing,))
                check_raises(self, NoPrograms, {"output": 0}, ranker.turned, (thing, thing))
                check_raises(self, NoPrograms, {"output": 1}, ranker.turned, (Program(()), thing))
                check_raises(self, NoPrograms, {"output": 11}, Ranker, (Program(()),) * 11 + (thing,))
        for thing in ((), (Program(()),) * 13, [Program(())], (None,) * 60000):
            check_raises(self, NoPrograms, {"output": -1}, Ranker, thing)
        for many in (0, 1, 3, 12, 13):
            check_raises(self, NoPrograms, {"output": -1}, ranker.turned, (Program(()),) * many)
        check_raises(self, NoPrograms, {"output": -1}, ranker.turned, [Program(())] * 2)
        check_raises(self, NoPrograms, {"output": 0}, Ranker, ((),))

    def test_errors_of_rank_in_their_order(self):
        ranker = Ranker((counting(), counting()))
        ranker.rank(0, CELL, 1, 0)
        for thing in not_integers_from(0, HIGH):
            check_raises(self, NoNumber, {}, ranker.rank, thing, None, None, None)
        for thing in odd_things():
            if not isinstance(thing, Cell):
                check_raises(self, NoCell, {}, ranker.rank, 0, thing, None, None)
        check_raises(self, NoCell, {}, ranker.rank, 0, (7, 3, 42, 5, (0,)), 0, 0)
        for thing in not_integers_from(0, 1):
            check_raises(self, NoOutput, {}, ranker.rank, HIGH, CELL, thing, None)
        for thing in not_integers_from(0, HIGH):
            check_raises(self, NoNumber, {}, ranker.rank, 0, CELL, 1, thing)
        self.assertEqual((ranker.kept(0), ranker.kept(1), ranker.owned(1, 42)), ({}, {"n": 1}, {"m": 2}))
        self.assertEqual(ranker.rank(0, CELL, 1, HIGH), 2)

    def test_errors_of_kept_and_owned(self):
        ranker = Ranker((counting(), counting(), counting()))
        for thing in not_integers_from(0, 2):
            check_raises(self, NoOutput, {}, ranker.kept, thing)
            check_raises(self, NoOutput, {}, ranker.owned, thing, 0)
            check_raises(self, NoOutput, {}, ranker.owned, thing, None)
        for thing in not_integers_from(0, 99):
            check_raises(self, NoNumber, {}, ranker.owned, 2, thing)
        self.assertEqual((ranker.owned(2, 0), ranker.owned(0, 99)), ({}, {}))

    def test_dicts_are_new(self):
        ranker = Ranker((counting(),))
        ranker.rank(0, CELL, 0, 0)
        for told in (ranker.kept(0), ranker.owned(0, 42), ranker.owned(0, 7)):
            told["n"] = told["m"] = 100
        self.assertEqual((ranker.kept(0), ranker.owned(0, 42), ranker.owned(0, 7)), ({"n": 1}, {"m": 2}, {}))
        self.assertEqual(ranker.rank(0, CELL, 0, 0), 2)

    def test_turned_has_the_kept_numbers_and_goes_on_apart(self):
        ranker = Ranker((counting(), counting()))
        ranker.rank(0, CELL, 0, 0)
        other = ranker.turned((Program((("keep", "n", ("*", ("keep", "n"), num(7))), ("own", "k", ("own", "m")),
                                        ("rank", ("own", "m")))), Program(())))
        self.assertIs(other.__class__, Ranker)
        self.assertEqual((other.kept(0), other.owned(0, 42), other.kept(1)), ({"n": 1}, {"m": 2}, {}))
        self.assertEqual(other.rank(0, CELL, 0, 0), 2)
        self.assertEqual((other.kept(0), other.owned(0, 42)), ({"n": 7}, {"m": 2, "k": 2}))
        self.assertEqual((other.rank(0, CELL, 1, 0), other.kept(1)), (0, {}))
        self.assertEqual((ranker.kept(0), ranker.owned(0, 42)), ({"n": 1}, {"m": 2}))
        self.assertEqual((ranker.rank(0, CELL, 0, 0), ranker.rank(0, CELL, 1, 0)), (2, 1))
        self.assertEqual((other.kept(0), other.owned(0, 42), other.kept(1)), ({"n": 7}, {"m": 2, "k": 2}, {}))

    def test_copies_go_on_apart(self):
        ranker = Ranker((counting(),))
        ranker.rank(0, CELL, 0, 0)
        other = ranker.copy()
        self.assertIs(other.__class__, Ranker)
        self.assertFalse(ranker == other)
        self.assertEqual([other.rank(0, CELL, 0, 0) for _ in range(3)], [2, 3, 4])
        self.assertEqual((ranker.kept(0), ranker.owned(0, 42)), ({"n": 1}, {"m": 2}))
        self.assertEqual(ranker.rank(0, CELL, 0, 0), 2)
        self.assertEqual((other.kept(0), other.owned(0, 42)), ({"n": 4}, {"m": 8}))

    def test_equal_to_itself_alone(self):
        ranker = Ranker((Program(()),))
        self.assertTrue(ranker == ranker)
        for thing in [*odd_things(), Ranker((Program(()),))]:
            self.assertFalse(ranker == thing)

    def test_a_refused_turn_changes_nothing(self):
        ranker = Ranker((counting(),))
        ranker.rank(0, CELL, 0, 0)
        for thing in with_each((counting(),), [None, 0, ()]):
            check_raises(self, NoPrograms, {"output": 0}, ranker.turned, thing)
        self.assertEqual(ranker.rank(0, CELL, 0, 0), 2)


if __name__ == "__main__":
    unittest.main()
