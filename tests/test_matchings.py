"""Webs, pairings, covers, crowds, needless and needed pairs: 8.1 and 8.2."""

import itertools
import unittest

from exactbeats.errors import NoNumber, NoWeb
from exactbeats.matchings import (cover, crowd, degree, greatest, is_cover, is_crowd, is_pairing, is_web, needed,
                                  needless)
from tests.drawn import Drawn, drawn_web
from tests.odd import check_judged, check_raises, nested, not_integers_from, odd_things, with_each

WEB = ((0, 0), (0, 1), (0, 1), (1, 0), (2, 0))
JUDGES = (is_pairing, is_cover, is_crowd)
TELLERS = (degree, greatest, cover, crowd, needless, needed)


def wrong_pairs(many):
    """Things that are no pair of numbers below many, but tuples of pairs."""
    wrong = [[0, 0], (0,), (0, 0, 0), (many, 0), (0, many), (-1, 0), (0, -1), (True, 0), (0, False), ((0,), 0), "00"]
    return wrong + with_each((0, 0), odd_things()) + odd_things()


def wrong_webs(many):
    return [[], [(0, 0)], ((0, 0),) * 301, (many, many)] + [(thing,) for thing in wrong_pairs(many)] + [
        thing for thing in odd_things() if thing != ()]


def lots(many):
    return [lot for length in range(many + 1) for lot in itertools.combinations(range(many), length)]


def every_pairing(web):
    """All pairings, by trying all lots of unlike pairs."""
    pairs = sorted(set(web))
    most = max([number for pair in pairs for number in pair], default=-1) + 1
    return [some for length in range(most + 1) for some in itertools.combinations(pairs, length)
            if len({line for line, _ in some}) == len({output for _, output in some}) == length]


def small_webs():
    """All webs of unlike pairs over 1, 2 and 3, and some with a pair several times."""
    for many in (1, 2, 3):
        pairs = list(itertools.product(range(many), repeat=2))
        for length in range(len(pairs) + 1):
            for web in itertools.combinations(pairs, length):
                yield many, web
    for web in itertools.combinations_with_replacement(list(itertools.product(range(2), repeat=2)), 4):
        yield 2, web


def some_webs():
    drawn = Drawn(21)
    return [(many, drawn_web(drawn, many, ties)) for many in (4, 5) for ties in (0, 3, 5, 7, 9, 12)] + [
        (4, drawn_web(drawn, 4, ties)) for ties in range(2, 12)]


def plain_greatest(pairs):
    """How many pairs a greatest pairing has, line by line, by the outputs that are used."""
    sizes = {0: 0}
    for line in sorted({line for line, _ in pairs}):
        longer = dict(sizes)
        for used, size in sizes.items():
            for other, output in pairs:
                if other == line and not used >> output & 1:
                    longer[used | 1 << output] = max(longer.get(used | 1 << output, 0), size + 1)
        sizes = longer
    return max(sizes.values())


class Webs(unittest.TestCase):
    def test_webs_are_known(self):
        check_judged(self, is_web, (3,), [(), WEB, ((2, 2),), ((0, 0),) * 300, ((0, 2),) * 299 + ((1, 0),)])
        for many in range(1, 13):
            full = tuple(itertools.product(range(many), repeat=2))
            self.assertIs(is_web(many, full), True)
            self.assertIs(is_web(many, ((many - 1, many - 1),) * 300), True)
            self.assertIs(is_web(many, full + ((many, 0),)), False)
            self.assertIs(is_web(many, ((0, many),)), False)

    def test_ascending_but_for_equal_ones(self):
        for web in ((WEB), ((0, 0), (0, 0), (1, 1))):
            for other in set(itertools.permutations(web)):
                self.assertIs(is_web(3, other), other == web)

    def test_at_most_300_ties(self):
        for ties in (299, 300, 301, 20000):
            self.assertIs(is_web(1, ((0, 0),) * ties), ties <= 300)

    def test_other_things_are_not(self):
        for thing in wrong_webs(2):
            self.assertIs(is_web(2, thing), False)
        for thing in wrong_pairs(2):
            self.assertIs(is_web(2, ((0, 0), thing, (1, 1))), False)
        self.assertIs(is_web(2, (nested(39, tuple),)), False)

    def test_no_number_then_no_web(self):
        for thing in not_integers_from(1, 12):
            check_raises(self, NoNumber, {}, is_web, thing, ())
            for call in JUDGES:
                check_raises(self, NoNumber, {}, call, thing, None, None)
            for call in TELLERS:
                check_raises(self, NoNumber, {}, call, thing, None)
        for thing in wrong_webs(2):
            for call in JUDGES:
                check_raises(self, NoWeb, {}, call, 2, thing, None)
            for call in TELLERS:
                check_raises(self, NoWeb, {}, call, 2, thing)

    def test_degree(self):
        for many, web, told in ((3, (), 0), (1, ((0, 0),) * 300, 300), (3, WEB, 3), (12, ((11, 11),), 1),
                                (3, ((0, 1), (1, 1), (2, 1), (2, 2)), 3), (2, ((0, 0), (0, 1), (1, 0), (1, 1)), 2)):
            self.assertEqual(degree(many, web), told)
        for many, web in some_webs():
            at = [[pair[side] for pair in web] for side in (0, 1)]
            self.assertEqual(degree(many, web), max([ends.count(number) for ends in at for number in range(many)]))


class Pairings(unittest.TestCase):
    def test_pairings_are_known(self):
        for many, web in list(small_webs())[::9]:
            right = every_pairing(web)
            for length in range(many + 2):
                for thing in itertools.product(itertools.product(range(many), repeat=2), repeat=length):
                    if length < 3 or thing in right:
                        self.assertIs(is_pairing(many, web, thing), thing in right)
        check_judged(self, is_pairing, (3, WEB), [(), ((0, 0),), ((0, 1),), ((0, 1), (1, 0)), ((0, 1), (2, 0))])

    def test_other_things_are_not(self):
        for thing in ([(0, 0)], ([0, 0],), ((0, 1), (0, 1)), ((1, 0), (0, 1)), ((1, 1),), ((1, 0), (2, 0)),
                      ((0, 0), (0, 1)), ((0, 1), (1, 0), None), ((0, 1),) * 20000, ((False, 0),), ((0, True),),
                      ((0, 2),), ((3, 0),)):
            self.assertIs(is_pairing(3, WEB, thing), False)
        for thing in wrong_pairs(3):
            self.assertIs(is_pairing(3, WEB, (thing,)), False)

    def check_greatest(self, many, web):
        pairings = every_pairing(web)
        most = max([len(pairing) for pairing in pairings])
        best = sorted([pairing for pairing in pairings if len(pairing) == most])
        self.assertEqual(greatest(many, web), best[0])
        self.assertIs(is_pairing(many, web, greatest(many, web)), True)
        pairs = sorted(set(web))
        none = [pair for pair in pairs if not any([pair in each for each in best])]
        self.assertEqual(needless(many, web), tuple(none))
        self.assertEqual(needed(many, web), tuple([pair for pair in pairs if all([pair in each for each in best])]))
        return most

    def check_cover_and_crowd(self, many, web, most):
        told = cover(many, web)
        self.assertIs(is_cover(many, web, told), True)
        self.assertEqual(len(told[0]) + len(told[1]), most)
        there = crowd(many, web)
        self.assertEqual(there is None, most == many)
        if there is not None:
            self.assertIs(is_crowd(many, web, there), True)

    def test_small_ones_gone_through_whole(self):
        for many, web in small_webs():
            self.check_cover_and_crowd(many, web, self.check_greatest(many, web))

    def test_drawn_ones(self):
        for many, web in some_webs():
            self.check_cover_and_crowd(many, web, self.check_greatest(many, web))

    def test_large_ones(self):
        drawn = Drawn(22)
        for many, ties in ((12, 14), (12, 20), (12, 40), (8, 300), (9, 12), (9, 25), (1, 300), (1, 0), (12, 0)):
            web = drawn_web(drawn, many, ties)
            most = plain_greatest(web)
            pairing = greatest(many, web)
            self.assertIs(is_pairing(many, web, pairing), True)
            self.assertEqual(len(pairing), most)
            self.check_cover_and_crowd(many, web, most)
            self.check_first(web, pairing)
            self.check_needs(many, web, most)

    def check_needs(self, many, web, most):
        least, always = needless(many, web), needed(many, web)
        for pair in sorted(set(web))[::3]:
            apart = [other for other in web if other[0] != pair[0] and other[1] != pair[1]]
            self.assertEqual(pair in least, plain_greatest(apart) + 1 < most)
            self.assertEqual(pair in always, plain_greatest([other for other in web if other != pair]) < most)

    def check_first(self, web, pairing):
        """That at no place of a greatest pairing a lesser pair would do, those ahead of it being as they are."""
        for place, pair in enumerate(pairing):
            for other in sorted(set(web)):
                lower = pairing[place - 1] if place else (-1, -1)
                if lower < other < pair:
                    head = pairing[:place] + (other,)
                    rest = [tie for tie in web if tie > other and tie[0] not in [line for line, _ in head]
                            and tie[1] not in [output for _, output in head]]
                    apart = len({line for line, _ in head}) == len({output for _, output in head}) == len(head)
                    if apart:
                        self.assertLess(len(head) + plain_greatest(rest), len(pairing))

    def test_ties_that_stand_several_times(self):
        web = ((0, 0), (0, 0), (1, 1), (1, 1), (1, 1))
        self.assertEqual((greatest(2, web), needless(2, web), needed(2, web)), (((0, 0), (1, 1)), (), ((0, 0), (1, 1))))
        self.assertEqual(sum([len(lot) for lot in cover(2, web)]), 2)
        self.assertIsNone(crowd(2, web))
        self.assertIs(is_crowd(2, ((0, 0), (0, 0), (1, 0)), (0, 1)), True)

    def test_webs_without_ties(self):
        for many in (1, 12):
            told = [call(many, ()) for call in (greatest, cover, needless, needed, degree)]
            self.assertEqual(told, [(), ((), ()), (), (), 0])
            self.assertIs(is_crowd(many, (), crowd(many, ())), True)
            self.assertIs(is_cover(many, (), ((), ())), True)


class CoversAndCrowds(unittest.TestCase):
    def test_covers_are_known(self):
        for many, web in list(small_webs())[::7]:
            for lines in lots(many):
                for outputs in lots(many):
                    right = all([line in lines or output in outputs for line, output in web])
                    self.assertIs(is_cover(many, web, (lines, outputs)), right)
        check_judged(self, is_cover, (2, ()), [((), ())])

    def test_other_things_are_no_covers(self):
        right = ((0,), (0,))
        self.assertIs(is_cover(3, WEB, right), True)
        self.assertIs(is_cover(3, WEB, ((0, 1, 2), (0, 1, 2))), True)
        for thing in ([*right], ((0,),), right + ((),), ([0], (0,)), ((0,), [0]), ((0, 0), (0,)), ((1, 0), (0,)),
                      ((0,), (3,)), ((0,), (-1, 0)), ((True,), (0,)), ((0,), (False,)), (0, 0),
                      ((0,), ((0,),)), ((0,), None)):
            self.assertIs(is_cover(3, WEB, thing), False)
        for thing in with_each(right, [thing for thing in odd_things() if thing != ()]) + odd_things():
            self.assertIs(is_cover(3, WEB, thing), False)

    def test_crowds_are_known(self):
        for many, web in list(small_webs())[::5]:
            there = False
            for lines in lots(many):
                right = len({output for line, output in web if line in lines}) < len(lines)
                self.assertIs(is_crowd(many, web, lines), right)
                there = there or right
            self.assertEqual(crowd(many, web) is not None, there)
        check_judged(self, is_crowd, (3, WEB), [(1, 2)])
        check_judged(self, is_crowd, (1, ()), [(0,)])

    def test_other_things_are_no_crowds(self):
        for thing in ([1, 2], (2, 1), (1, 1, 2), (1, 2, 3), (-1, 1, 2), (True, 2), (1, (2,)), (1, None), (), (0,), (1,),
                      0):
            self.assertIs(is_crowd(3, WEB, thing), False)


if __name__ == "__main__":
    unittest.main()
