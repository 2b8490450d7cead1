"""Frames: 11."""

import itertools
import unittest

from exactbeats.errors import NoNumber, NoTable, NotEven, TooFull
from exactbeats.frames import are_shares, evened, is_round, round_of, shares
from tests.drawn import Drawn
from tests.odd import check_judged, check_raises, not_integers_from, odd_things

T = ((1, 0), (1, 1))
WRONG_TABLES = [(), ((),), ((1, 0),), ((1, 0), (1,)), ((1, 0), (1, 1, 1)), ((1, 0), [1, 1]), [(1, 0), (1, 1)],
                ((1, 0), (1, 301)), ((1, 0), (1, -1)), ((1, 0), (1, True)), ((1, False), (1, 1)), ((1, 0), (1, None)),
                ((1, 0), (1, "1")), ((1, 0), 1), ((0,) * 13,) * 13, 1, ((True,),), ((301,),), ((0,), (0,))]


def sums(table):
    return [sum(row) for row in table], [sum(row) for row in zip(*table)]


def zeros(many):
    return ((0,) * many,) * many


def drawn_table(drawn, many, beats, most=300, tries=200):
    """A table none of whose sums is above so many beats."""
    table = [[0] * many for _ in range(many)]
    for _ in range(drawn.below(tries)):
        line, output, more = drawn.below(many), drawn.below(many), 1 + drawn.below(1 + beats // 3)
        table[line][output] += more
        if max(sum(table, [])) > most or max(sums(table)[0] + sums(table)[1]) > beats:
            table[line][output] -= more
    return tuple([tuple(row) for row in table])


def drawn_even(drawn, many, terms, most=20):
    table = [[0] * many for _ in range(many)]
    for _ in range(terms):
        times = 1 + drawn.below(most)
        for line, output in enumerate(drawn.mixed(range(many))):
            table[line][output] += times
    return tuple([tuple(row) for row in table])


def round_plainly(table, beats, thing):
    """11.1 told anew, of a tuple of tuples of pairs of numbers."""
    many = len(table)
    for pairs in thing:
        if list(pairs) != sorted(set(pairs)) or len({line for line, _ in pairs}) != len(pairs):
            return False
        if len({output for _, output in pairs}) != len(pairs):
            return False
    count = {}
    for pair in itertools.chain(*thing):
        count[pair] = count.get(pair, 0) + 1
    wanted = {(line, output): table[line][output] for line in range(many) for output in range(many)
              if table[line][output]}
    return len(thing) == beats and count == wanted


class Rounds(unittest.TestCase):
    def check(self, table, beats):
        told = round_of(table, beats)
        self.assertEqual({each.__class__ for each in told} | {told.__class__}, {tuple})
        self.assertTrue(round_plainly(table, beats, told))
        self.assertIs(is_round(table, beats, told), True)

    def test_small_ones(self):
        self.check(T, 2)
        self.check(T, 3)
        self.check(T, 300)
        self.assertEqual(round_of(zeros(1), 0), ())
        self.assertEqual(round_of(zeros(12), 0), ())
        self.assertEqual(round_of(zeros(3), 4), ((),) * 4)
        self.assertEqual(round_of(((1,),), 1), (((0, 0),),))
        self.assertEqual(round_of(((300,),), 300), (((0, 0),),) * 300)

    def test_all_of_two_lines(self):
        for numbers in itertools.product(range(4), repeat=4):
            table = (numbers[:2], numbers[2:])
            at_lines, at_outputs = sums(table)
            for beats in range(7):
                full = [("line", line) for line in range(2) if at_lines[line] > beats]
                full += [("output", output) for output in range(2) if at_outputs[output] > beats]
                if full:
                    for call in (round_of, evened):
                        check_raises(self, TooFull, {"side": full[0][0], "line": full[0][1]}, call, table, beats)
                    self.assertIs(is_round(table, beats, ((),) * beats), False)
                else:
                    self.check(table, beats)

    def test_drawn_ones(self):
        drawn = Drawn(121)
        for many in range(1, 13):
            for beats in (1, 2, 7, 60, 299, 300):
                table = drawn_table(drawn, many, beats)
                self.check(table, beats)
                full = max(sums(table)[0] + sums(table)[1])
                self.check(table, full)
                if full:
                    side, place = [("line", sums(table)[0]), ("output", sums(table)[1])][full not in sums(table)[0]]
                    check_raises(self, TooFull, {"side": side, "line": place.index(full)}, round_of, table, full - 1)

    def test_full_ones(self):
        self.check(((25,) * 12,) * 12, 300)
        self.check(tuple([(0,) * line + (300,) + (0,) * (11 - line) for line in range(12)]), 300)

    def test_judged(self):
        right = [(((0, 0), (1, 1)), ((1, 0),)), (((1, 0),), ((0, 0), (1, 1)))]
        check_judged(self, is_round, (T, 2), right)
        check_judged(self, is_round, (zeros(2), 0), [()])
        check_judged(self, is_round, (zeros(2), 2), [((), ())])
        for thing in ((((0, 0), (1, 1)),), right[0] + ((),), (((1, 1), (0, 0)), ((1, 0),)), (((0, 0),), ((1, 0), (1, 1))),
                      (((0, 0), (1, 0)), ((1, 1),)), (((0, 0), (0, 0), (1, 1)), ((1, 0),)), (((0, 0), (1, 1)), ()),
                      (((0, 0), (1, 1)), ((0, 1), (1, 0))), (((0, 0), (1, 1)), ((0, 0),)), (((0, 0), (1, 1)), ((1, False),)),
                      (((0, 0), (True, 1)), ((1, 0),)), (((0, 0), [1, 1]), ((1, 0),)), ([(0, 0), (1, 1)], ((1, 0),)),
                      [((0, 0), (1, 1)), ((1, 0),)], (((0, 0), (1, 1)), ((2, 0),)), (((0, 0), (1, 1)), ((-1, 0),)),
                      (((0, 0), (1, 1)), ((1, 0, 0),)), (((0, 0), (1, 1)), ((1,),)), (((0, 0), (1, 1)), None)):
            self.assertIs(is_round(T, 2, thing), False)
        for thing in odd_things():
            if thing != ():
                self.assertIs(is_round(T, 2, (((0, 0), (1, 1)), thing)), False)
            self.assertIs(is_round(T, 2, (((0, 0), (1, 1)), (thing,))), False)
            self.assertIs(is_round(T, 2, (((0, 0), (1, 1)), ((1, thing),))), False)

    def test_all_small_things_judged(self):
        pairs = [(0, 0), (0, 1), (1, 0), (1, 1)]
        lots = [tuple(each) for many in range(4) for each in itertools.product(pairs, repeat=many)]
        rights = 0
        for thing in itertools.product(lots, repeat=2):
            told = round_plainly(T, 2, thing)
            rights += told
            self.assertIs(is_round(T, 2, thing), told)
        self.assertEqual(rights, 2)

    def test_errors_in_their_order(self):
        for call in (round_of, evened, lambda table, beats: is_round(table, beats, None)):
            for thing in WRONG_TABLES + [thing for thing in odd_things()]:
                check_raises(self, NoTable, {}, call, thing, None)
            for thing in not_integers_from(0, 300):
                check_raises(self, NoNumber, {}, call, T, thing)
                check_raises(self, NoNumber, {}, call, ((300,) * 12,) * 12, thing)
        for call in (round_of, evened):
            check_raises(self, TooFull, {"side": "line", "line": 1}, call, T, 1)
            check_raises(self, TooFull, {"side": "output", "line": 0}, call, ((1, 0), (1, 0)), 1)
            check_raises(self, TooFull, {"side": "line", "line": 0}, call, ((300,) * 12,) * 12, 300)
        self.assertIs(is_round(T, 1, (((0, 0), (1, 1)),)), False)


class Shares(unittest.TestCase):
    def check(self, table):
        told = shares(table)
        self.assertIs(told.__class__, tuple)
        many = len(table)
        self.assertLessEqual(len(told), (many - 1) ** 2 + 1)
        self.assertEqual(len({matching for _, matching in told}), len(told))
        for times, matching in told:
            self.assertGreaterEqual(times, 1)
            self.assertEqual([line for line, _ in matching], list(range(many)))
            self.assertEqual(sorted([output for _, output in matching]), list(range(many)))
        rebuilt = [[sum([times for times, matching in told if (line, output) in matching]) for output in range(many)]
                   for line in range(many)]
        self.assertEqual(tuple([tuple(row) for row in rebuilt]), table)
        self.assertIs(are_shares(table, told), True)

    def test_small_ones(self):
        self.assertEqual(shares(((0,),)), ())
        self.assertEqual(shares(zeros(12)), ())
        self.assertEqual(shares(((300,),)), ((300, ((0, 0),)),))
        self.assertEqual(sorted(shares(((2, 1), (1, 2)))), [(1, ((0, 1), (1, 0))), (2, ((0, 0), (1, 1)))])
        self.check(((300,) * 12,) * 12)
        self.check(tuple([tuple([(line + output) % 12 for output in range(12)]) for line in range(12)]))

    def test_all_even_ones_of_three_lines(self):
        looked = 0
        for numbers in itertools.product(range(3), repeat=9):
            table = (numbers[:3], numbers[3:6], numbers[6:])
            if len(set(sums(table)[0] + sums(table)[1])) == 1:
                looked += 1
                self.check(table)
            else:
                check_raises(self, NotEven, {}, shares, table)
        self.assertGreater(looked, 50)

    def test_drawn_ones(self):
        drawn = Drawn(122)
        for many in range(1, 13):
            for terms in (1, 3, 12, 200):
                self.check(drawn_even(drawn, many, terms, 300 // terms))

    def test_not_even(self):
        for table in (T, ((1, 0), (0, 2)), ((1, 1), (0, 0)), ((1, 0), (1, 0)), ((2, 0), (0, 1))):
            check_raises(self, NotEven, {}, shares, table)
            self.assertIs(are_shares(table, ()), False)
        for call in (shares, lambda table: are_shares(table, None)):
            for thing in WRONG_TABLES + odd_things():
                check_raises(self, NoTable, {}, call, thing)

    def test_judged(self):
        even = ((2, 1), (1, 2))
        one, two = (1, ((0, 1), (1, 0))), (2, ((0, 0), (1, 1)))
        check_judged(self, are_shares, (even,), [(one, two), (two, one)])
        check_judged(self, are_shares, (zeros(2),), [()])
        for thing in ((one,), (two,), (one, one), (one, two, two), (one, (1, two[1]), (1, two[1])), (one, (3, two[1])),
                      (one, (2, ((1, 1), (0, 0)))), ([1, one[1]], two), (one, (2, [(0, 0), (1, 1)])), [one, two],
                      ((True, one[1]), two), ((1, ((0, 1), (1, False))), two), (one, two, (0, ())), (one, two, (1, ())),
                      (one, (2, ((0, 0),))), (one, (2, ((0, 0), (1, 1), (1, 1)))), (one, (2, ((0, 0), (2, 2)))),
                      (one, two + (0,)), (one, (-2, two[1])), (one, two, (0, ((0, 0), (1, 1)))), ((2, one[1]), (1, two[1])),
                      (one, None), (one, (2, None)), (one, (2, (None, None))), (one, (None, two[1]))):
            self.assertIs(are_shares(even, thing), False)
        for thing in odd_things():
            for other in ((one, thing), (one, (thing, two[1])), (one, (2, thing)), (one, (2, ((0, 0), thing))),
                          (one, (2, ((0, 0), (1, thing))))):
                self.assertIs(are_shares(even, other), False)

    def test_each_is_whole_unlike_and_from_1_on(self):
        """Of things that stand together as often as the table tells, and are not too many."""
        straight, across = ((0, 0), (1, 1)), ((0, 1), (1, 0))
        once, twice = ((1, 0), (0, 1)), ((2, 0), (0, 2))
        self.assertIs(are_shares(once, ((1, straight),)), True)
        self.assertIs(are_shares(once, ((1, ((0, 0),)), (1, ((1, 1),)))), False)
        self.assertIs(are_shares(once, ((1, straight), (0, across))), False)
        self.assertIs(are_shares(once, ((1, straight), (1, ()))), False)
        self.assertIs(are_shares(twice, ((2, straight),)), True)
        self.assertIs(are_shares(twice, ((1, straight), (1, straight))), False)
        self.assertIs(are_shares(twice, ((3, straight), (-1, straight))), False)

    def test_at_most_so_many(self):
        # All six whole matchings of three lines: one more than (3 - 1) ** 2 + 1.
        every = [tuple(enumerate(outputs)) for outputs in itertools.permutations(range(3))]
        table = ((2,) * 3,) * 3
        self.assertIs(are_shares(table, tuple([(1, matching) for matching in every])), False)
        for left_out in range(6):
            some = every[:left_out] + every[left_out + 1:]
            less = tuple([tuple([sum([(line, output) in matching for matching in some]) for output in range(3)])
                          for line in range(3)])
            self.assertIs(are_shares(less, tuple([(1, matching) for matching in some])), True)


class Evened(unittest.TestCase):
    def check(self, table, beats):
        told = evened(table, beats)
        self.assertEqual({row.__class__ for row in told} | {told.__class__}, {tuple})
        self.assertEqual(set(sums(told)[0] + sums(told)[1]), {beats})
        for row, other in zip(table, told):
            self.assertEqual(len(row), len(other))
            self.assertTrue(all([number <= more for number, more in zip(row, other)]))
        self.assertIs(are_shares(told, shares(told)), True)

    def test_small_ones(self):
        self.assertEqual(evened(zeros(3), 0), zeros(3))
        self.assertEqual(evened(((1, 1), (1, 1)), 2), ((1, 1), (1, 1)))
        self.assertEqual(evened(((0,),), 300), ((300,),))
        self.assertEqual(evened(T, 2), ((1, 1), (1, 1)))

    def test_drawn_ones(self):
        drawn = Drawn(123)
        for many in range(1, 13):
            for beats in (1, 3, 20, 150, 300):
                table = drawn_table(drawn, many, beats)
                self.check(table, beats)
                self.check(table, max(sums(table)[0]+ sums(table)[1]))
                self.check(zeros(many), beats)


if __name__ == "__main__":
    unittest.main()
