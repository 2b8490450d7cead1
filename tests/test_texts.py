"""Arrivals as texts, there and back: 15.1."""

import unittest

from exactbeats.cells import is_arrivals
from exactbeats.errors import BadText, NoArrivals, NoLines, NoMost
from exactbeats.texts import arrivals_text, read_arrivals
from tests.drawn import Drawn, drawn_arrivals
from tests.odd import check_raises, not_integers_from, odd_things
from tests.test_house import wrong_items

A = (0, 0, (0,))
TEXTS = {
    "": (), "-\n": ((None,),), "-\n-\n": ((None,), (None,)), "- -\n": ((None, None),), "0.0>0\n": ((A,),),
    "0.0>0 -\n- 99.7>0,1\n": ((A, None), (None, (99, 7, (0, 1)))),
    "- - - 10.2>0,2,3\n": ((None, None, None, (10, 2, (0, 2, 3))),),
    " ".join(["5.5>9,10,11"] * 12) + "\n": (((5, 5, (9, 10, 11)),) * 12,),
}


class Texts(unittest.TestCase):
    def test_there_and_back(self):
        for text, arrivals in TEXTS.items():
            self.assertEqual(arrivals_text(arrivals), text)
            for lines in [len(arrivals[0])] if arrivals else range(1, 13):
                self.assertEqual(read_arrivals(lines, 3, text), arrivals)
        drawn = Drawn(131)
        for lines in range(1, 13):
            for most in (1, 2, 3):
                arrivals = drawn_arrivals(drawn, lines, most, drawn.below(30), 3, 4)
                text = arrivals_text(arrivals)
                self.assertEqual(read_arrivals(lines, most, text), arrivals)
                self.assertIs(is_arrivals(lines, most, read_arrivals(lines, most, text)), True)

    def test_as_long_as_can_be(self):
        arrivals = (((99, 7, (9, 10, 11)),) * 12,) * 200
        text = arrivals_text(arrivals)
        self.assertEqual(text, (" ".join(["99.7>9,10,11"] * 12) + "\n") * 200)
        self.assertEqual(read_arrivals(12, 3, text), arrivals)

    def test_no_arrivals(self):
        for thing in odd_things():
            if thing != ():
                check_raises(self, NoArrivals, {}, arrivals_text, thing)
            if not isinstance(thing, tuple):
                check_raises(self, NoArrivals, {}, arrivals_text, (thing,))
                check_raises(self, NoArrivals, {}, arrivals_text, ((None,), thing))
        for thing in ([], [(None,)], ((),), ((), ()), ((None,) * 13,), ((None,), (None, None)), ((None, None), (None,)),
                      ((None,), ()), ((None,), [None]), ((None,),) * 201, ((A,),) * 201, (((0, 0, (1,)),),),
                      ((None, (0, 0, (0, 2))),), (((0, 0, (0, 1, 2, 3)),) * 4,)):
            check_raises(self, NoArrivals, {}, arrivals_text, thing)
        for item in wrong_items(2, 3):
            check_raises(self, NoArrivals, {}, arrivals_text, ((None, item),))
            check_raises(self, NoArrivals, {}, arrivals_text, ((None, None), (A, item)))
        self.assertEqual(arrivals_text((((0, 0, (0, 1, 2)),) * 3,)), "0.0>0,1,2 0.0>0,1,2 0.0>0,1,2\n")
        self.assertEqual(arrivals_text(((None,),) * 200), "-\n" * 200)


class Readings(unittest.TestCase):
    def wrong(self, line, *texts, lines=2, most=2):
        for text in texts:
            check_raises(self, BadText, {"line": line}, read_arrivals, lines, most, text)

    def test_errors_in_their_order(self):
        for thing in not_integers_from(1, 12):
            check_raises(self, NoLines, {}, read_arrivals, thing, None, None)
        for thing in not_integers_from(1, 3):
            check_raises(self, NoMost, {}, read_arrivals, 2, thing, None)
        for thing in odd_things():
            if not isinstance(thing, str):
                self.wrong(0, thing)
        self.wrong(0, b"- -\n", ["- -\n"])

    def test_wrong_lines(self):
        right = "0.0>0 -\n"
        self.assertEqual(read_arrivals(2, 2, right * 3), ((A, None),) * 3)
        for line in ("", " ", "-", "- ", " -", "- - ", " - -", "-  -", "- - -", "--", "-\t-", "0.0>0", "0.0>0 0.0>0 0.0>0",
                     "0.0>0  -", "0.0>0 - ", " 0.0>0 -", "- 00.0>0", "- 0.00>0", "- 0.0>00", "- 0.0>01", "- 01.0>0",
                     "- 0.01>0", "- 0.0>", "- 0.>0", "- .0>0", "- 0.0", "- 0>0", "- 0", "- 0.0>-", "- -0.0>0", "- +1.0>0",
                     "- 0.-1>0", "- 0.0>-1", "- 100.0>0", "- 0.8>0", "- 0.0>2", "- 0.0>1,0", "- 0.0>0,0", "- 0.0>0,1,",
                     "- 0.0>,0", "- 0.0>0,,1", "- 0.0>0, 1", "- 0.0>0;1", "- 0.0>0 1", "- 0,0>0", "- 0:0>0", "- 0.0<0",
                     "- 0.0>>0", "- 0..0>0", "- 0.0.0>0", "- 0.0>0.0", "- 0.0>0>1", "- a.0>0", "- 0.a>0", "- 0.0>a", "None -",
                     "- none", "_ -", "- 0_0.0>0", "- 1_0.0>0", "- " + "9" * 19000 + ".0>0", "- 0.0>" + "0," * 9000 + "0",
                     "- 0.0>" + "1" * 30, "- 1e1.0>0", "- 0x1.0>0", "- 0.0>0\r", "- -\r", "- -;", "-,-", "-\x0b-"):
            self.wrong(1, f"{line}\n", f"{line}\n{right}", line + "\n" + line)
            self.wrong(3, right * 2 + f"{line}\n", right * 2 + f"{line}\n{right}x")

    def test_for_so_many_lines_and_copies(self):
        self.assertEqual(read_arrivals(3, 3, "0.0>0,1,2 - -\n"), (((0, 0, (0, 1, 2)), None, None),))
        self.wrong(1, "0.0>0,1,2 - -\n", lines=3)
        self.wrong(1, "0.0>0,1 - -\n", lines=3, most=1)
        self.wrong(1, "0.0>0,1,2,3 - - -\n", lines=4, most=3)
        self.wrong(1, "0.0>3 - -\n", lines=3)
        self.wrong(1, "- -\n", lines=1)
        self.wrong(1, "- -\n", lines=3)
        self.wrong(2, "-\n- -\n", lines=1)

    def test_what_stands_behind_the_last_line_feed(self):
        self.wrong(1, "- -", "-", " ", "x")
        self.wrong(2, "- -\n- -", "- -\n ", "- -\nx")
        self.wrong(1, "-\n- -", "x\nx")

    def test_at_most_200(self):
        self.assertEqual(read_arrivals(2, 2, "- -\n" * 200), ((None, None),) * 200)
        self.wrong(201, "- -\n" * 201, "- -\n" * 202, "- -\n" * 200 + "x\n", "- -\n" * 200 + "- -", "- -\n" * 200 + "x",
                   "- -\n" * 4000)
        self.wrong(200, "- -\n" * 199 + "-\n" + "- -\n")

    def test_changed_texts_are_read_just_if_they_are_texts(self):
        drawn = Drawn(132)
        read = 0
        for _ in range(40):
            lines = 1 + drawn.below(4)
            text = arrivals_text(drawn_arrivals(drawn, lines, 2, 4, 3, 4))
            for _ in range(80):
                at = drawn.below(len(text))
                other = text[:at] + drawn.among(["", drawn.among("\n  ---..>>,,00112345679")]) + text[at + drawn.below(2):]
                try:
                    arrivals = read_arrivals(lines, 2, other)
                except BadText:
                    continue
                read += 1
                self.assertEqual(arrivals_text(arrivals), other)
        self.assertGreater(read, 200)


if __name__ == "__main__":
    unittest.main()
