"""Standings and rows: 4.1 and 4.2."""

import unittest

from exactbeats.errors import NoCopies, NoLine, NoLines, NoPlace, NoStanding
from exactbeats.ideal import Ideal
from exactbeats.rows import Rows, copies_for, is_standing
from exactbeats.stable import (all_stable, blocks, is_matching, is_stable, matched, stable_for_outputs, stable_matching)
from tests.drawn import Drawn, drawn_standing
from tests.odd import check_judged, check_raises, nested, not_integers_from, odd_things

HIGH = 10 ** 18
STANDINGS = [((),), ((), ()), ((), (), ()), ((),) * 12, (((0, (0, 0)),),), (((0, (HIGH, 10 ** 9)), (0, (-HIGH, 0))),),
             (((1, (0, 0)), (0, (0, 0))), ((1, (0, 1)), (1, (-1, 1)))),
             ((),) * 11 + (tuple([(output, (5, 5)) for output in range(12)]),)]


def wrong_copies(lines):
    """Things that are no copy that waits, for so many lines."""
    wrong = [[0, (0, 0)], (0,), (0, (0, 0), 0), (0, [0, 0]), (0, 0), (0, (0,)), (0, (0, 0, 0)), (lines, (0, 0)),
             (-1, (0, 0)), (False, (0, 0)), (0, (True, 0)), (0, (0, True)), (0, (HIGH + 1, 0)), (0, (-HIGH - 1, 0)),
             (0, (0, -1)), (0, (0, 10 ** 9 + 1)), (0, (None, 0)), (0, (0, None)), ("0", (0, 0)), (0, ("0", 0)),
             (0, ((0,), 0)), (0, nested(38, tuple)), (10 ** 59, (0, 0)), (Ideal(1), (0, 0)), (0, 0, 0)]
    return wrong + odd_things()


class Standings(unittest.TestCase):
    def test_standings_are_known(self):
        check_judged(self, is_standing, (), STANDINGS)
        row = tuple([(0, (rank, number)) for rank in range(2) for number in range(5000)])
        self.assertIs(is_standing((row,)), True)
        self.assertIs(is_standing((row, row)), False)
        self.assertIs(is_standing((row, (row[-1],))), False)
        drawn = Drawn(1)
        for lines in range(1, 13):
            self.assertIs(is_standing(drawn_standing(drawn, lines, 9)), True)

    def test_1_to_12_lines(self):
        for many in range(15):
            self.assertIs(is_standing(((),) * many), 1 <= many <= 12)
            self.assertIs(is_standing([()] * many), False)

    def test_rows_are_tuples(self):
        for thing in odd_things():
            if thing != ():
                self.assertIs(is_standing((thing,)), False)
                self.assertIs(is_standing(((), thing, ())), False)
        self.assertIs(is_standing(([],)), False)
        self.assertIs(is_standing(([(0, (0, 0))],)), False)

    def test_copies_of_another_form(self):
        for thing in wrong_copies(2):
            self.assertIs(is_standing(((thing,), ())), False)
            self.assertIs(is_standing(((), ((0, (0, 0)), thing))), False)

    def test_outputs_are_numbers_of_lines(self):
        for lines in range(1, 13):
            for output in range(13):
                self.assertIs(is_standing((((output, (0, 0)),),) + ((),) * (lines - 1)), output < lines)

    def test_each_pair_stands_once(self):
        copy = (0, (0, 0))
        self.assertIs(is_standing(((copy, copy), ())), False)
        self.assertIs(is_standing(((copy,), (copy,))), False)
        self.assertIs(is_standing(((copy,), ((1, (0, 0)), (0, (1, 0)), (0, (0, 1))))), True)


class CopiesFor(unittest.TestCase):
    def test_ascending_triples(self):
        standing = (((1, (2, 0)), (0, (0, 0)), (1, (-3, 4))), ((1, (2, 1)), (1, (-3, 2))), ())
        self.assertEqual(copies_for(standing, 1), [((-3, 2), 1, 1), ((-3, 4), 0, 2), ((2, 0), 0, 0), ((2, 1), 1, 0)])
        self.assertEqual(copies_for(standing, 0), [((0, 0), 0, 1)])
        self.assertEqual(copies_for(standing, 2), [])
        self.assertIsNot(copies_for(standing, 2), copies_for(standing, 2))

    def test_drawn_ones(self):
        drawn = Drawn(2)
        for lines in (1, 2, 5, 12):
            standing = drawn_standing(drawn, lines, 12)
            told = [(key, line, place) for output in range(lines) for key, line, place in copies_for(standing, output)
                    if standing[line][place] == (output, key)]
            self.assertEqual(len(told), sum([len(row) for row in standing]))
            self.assertEqual(len(set(told)), len(told))
            for output in range(lines):
                self.assertEqual(copies_for(standing, output), sorted(copies_for(standing, output)))

    def test_no_line(self):
        for standing in STANDINGS[:4]:
            for thing in not_integers_from(0, len(standing) - 1):
                check_raises(self, NoLine, {}, copies_for, standing, thing)

    def test_no_standing_is_due_first_everywhere(self):
        wrong = [thing for thing in odd_things() if not is_standing(thing)]
        wrong += [(), ((),) * 13, [()], ([],), ((None,),), (((1, (0, 0)),),), (((0, (0, 0)),) * 2,)]
        for thing in wrong:
            for call in (copies_for, is_matching, is_stable, blocks, matched):
                check_raises(self, NoStanding, {}, call, thing, None)
            for call in (stable_matching, stable_for_outputs, all_stable):
                check_raises(self, NoStanding, {}, call, thing)


class LiveRows(unittest.TestCase):
    def test_empty_at_first(self):
        for lines in range(1, 13):
            self.assertEqual(Rows(lines).standing(), ((),) * lines)
        for thing in not_integers_from(1, 12):
            check_raises(self, NoLines, {}, Rows, thing)

    def test_put_is_ahead_of_all_of_the_row(self):
        rows = Rows(3)
        first, second = ((2, (5, 0)), (0, (1, 0))), ((1, (0, 1)),)
        self.assertIsNone(rows.put(1, first))
        self.assertEqual(rows.standing(), ((), first, ()))
        rows.put(1, second)
        rows.put(2, ((1, (0, 2)),))
        self.assertEqual(rows.standing(), ((), second + first, ((1, (0, 2)),)))
        self.assertIsNone(rows.put(1, ()))
        self.assertEqual(rows.standing(), ((), second + first, ((1, (0, 2)),)))

    def test_take_leaves_all_others_in_their_order(self):
        copies = tuple([(output, (0, 0)) for output in range(4)])
        for place in range(4):
            rows = Rows(4)
            rows.put(2, copies)
            self.assertEqual(rows.take(2, place), copies[place])
            self.assertEqual(rows.standing(), ((), (), copies[:place] + copies[place + 1:], ()))

    def test_what_was_taken_may_be_put_again(self):
        rows = Rows(2)
        rows.put(0, ((0, (0, 0)), (1, (0, 0))))
        rows.put(1, (rows.take(0, 0),))
        self.assertEqual(rows.standing(), (((1, (0, 0)),), ((0, (0, 0)),)))

    def test_no_line(self):
        rows = Rows(3)
        rows.put(0, ((0, (0, 0)),))
        for thing in not_integers_from(0, 2):
            check_raises(self, NoLine, {}, rows.put, thing, None)
            check_raises(self, NoLine, {}, rows.put, thing, ((1, (0, 0)),))
            check_raises(self, NoLine, {}, rows.take, thing, None)
            check_raises(self, NoLine, {}, rows.take, thing, 0)
        self.assertEqual(rows.standing(), (((0, (0, 0)),), (), ()))

    def test_no_place(self):
        rows = Rows(2)
        rows.put(0, ((0, (0, 0)), (1, (0, 0))))
        for thing in not_integers_from(0, 1):
            check_raises(self, NoPlace, {}, rows.take, 0, thing)
        for thing in (0, -1, None):
            check_raises(self, NoPlace, {}, rows.take, 1, thing)
        self.assertEqual(rows.standing(), (((0, (0, 0)), (1, (0, 0))), ()))

    def test_no_copies(self):
        rows = Rows(2)
        there, other = (0, (0, 0)), (1, (3, 7))
        rows.put(1, (there,))
        for thing in odd_things():
            if thing != ():
                check_raises(self, NoCopies, {}, rows.put, 0, thing)
        for thing in wrong_copies(2):
            check_raises(self, NoCopies, {}, rows.put, 0, (thing,))
            check_raises(self, NoCopies, {}, rows.put, 1, (other, thing))
        for thing in ([other], (there,), (other, there), (other, other), (other, (1, (3, 8)), other)):
            for line in (0, 1):
                check_raises(self, NoCopies, {}, rows.put, line, thing)
        self.assertEqual(rows.standing(), ((), (there,)))
        rows.put(0, (other, (0, (0, 1)), (1, (0, 0))))

    def test_long_rows(self):
        rows = Rows(2)
        copies = tuple([(number % 2, (0, number)) for number in range(9000)])
        rows.put(0, copies)
        rows.put(0, ((0, (1, 0)),))
        self.assertEqual(rows.take(0, 9000), copies[-1])
        self.assertEqual(rows.standing(), (((0, (1, 0)),) + copies[:-1], ()))
        check_raises(self, NoCopies, {}, rows.put, 1, copies[5000:5001])

    def test_drawn_lives(self):
        drawn = Drawn(3)
        for lines in (1, 3, 12):
            rows, plain, number = Rows(lines), [[] for _ in range(lines)], 0
            for _ in range(150):
                line = drawn.below(lines)
                if drawn.flag(2, 5):
                    outs = drawn.mixed(drawn.lot(lines, drawn.below(min(lines, 4) + 1)))
                    copies = [(output, (drawn.below(3), number)) for output in outs]
                    number += 1
                    rows.put(line, tuple(copies))
                    plain[line] = copies + plain[line]
                elif plain[line]:
                    place = drawn.below(len(plain[line]))
                    self.assertEqual(rows.take(line, place), plain[line].pop(place))
                before = rows.standing()
                self.assertEqual(before, tuple([tuple(row) for row in plain]))
                self.assertIs(is_standing(before), True)

    def test_standings_stay(self):
        rows = Rows(1)
        rows.put(0, ((0, (0, 0)),))
        before = rows.standing()
        rows.put(0, ((0, (0, 1)),))
        rows.take(0, 1)
        self.assertEqual(before, (((0, (0, 0)),),))

    def test_equal_to_itself_alone(self):
        rows = Rows(1)
        self.assertTrue(rows == rows)
        for thing in [*odd_things(), Rows(1), ((),)]:
            self.assertFalse(rows == thing)


if __name__ == "__main__":
    unittest.main()
