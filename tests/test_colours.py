"""Colourings, and ties put into them: 8.3."""

import itertools
import unittest

from exactbeats.colours import coloured, is_colouring, with_tie
from exactbeats.errors import NoNumber, NotColoured, NoPair, NoWeb, TooFew
from exactbeats.matchings import degree
from tests.drawn import Drawn, drawn_web
from tests.odd import check_judged, check_raises, not_integers_from, odd_things, with_each
from tests.test_matchings import small_webs, some_webs, wrong_pairs, wrong_webs

WEB = ((0, 0), (0, 1), (1, 0), (1, 0))


def plain_colourings(web, colours):
    """All colourings, tie by tie."""
    found = [()]
    for number, tie in enumerate(web):
        found = [some + (colour,) for some in found for colour in range(colours)
                 if not any(some[other] == colour and (web[other][0] == tie[0] or web[other][1] == tie[1])
                            for other in range(number))]
    return found


def row_at(web, colouring, side, end, first, second):
    """8.3 told anew: the ties of two colours that hang together with an end, all of them, by flooding."""
    row = {number for number, colour in enumerate(colouring) if colour == first and web[number][side] == end}
    grown = None
    while row != grown:
        grown = set(row)
        for number, colour in enumerate(colouring):
            if colour in (first, second) and any(web[number][at] == web[other][at] for other in grown for at in (0, 1)):
                row.add(number)
    return row


def plain_with_tie(web, colours, colouring, pair):
    """8.3's with_tie told anew; which row was exchanged is told behind: None for none."""
    used = [{colour for tie, colour in zip(web, colouring) if tie[side] == pair[side]} for side in (0, 1)]
    both = [colour for colour in range(colours) if colour not in used[0] | used[1]]
    kept, moved, which = list(colouring), set(), None
    if both:
        new = both[0]
    else:
        a, b = [min([colour for colour in range(colours) if colour not in used[side]]) for side in (0, 1)]
        of_output, of_line = row_at(web, colouring, 1, pair[1], a, b), row_at(web, colouring, 0, pair[0], b, a)
        which = "line" if len(of_line) < len(of_output) else "output"
        if len(of_line) == len(of_output):
            which = "alike"
        moved, new = (of_line, b) if which == "line" else (of_output, a)
        for number in moved:
            kept[number] = b if kept[number] == a else a
    place = len([tie for tie in web if tie <= pair])
    return (tuple(kept[:place] + [new] + kept[place:]), tuple(sorted(moved))), which


def put(web, pair):
    return tuple(sorted([*web, pair]))


class Colourings(unittest.TestCase):
    def test_colourings_are_known(self):
        for many, web in list(small_webs())[::11]:
            if len(web) <= 5:
                for colours in (1, 2, 3):
                    right = plain_colourings(web, colours)
                    for thing in itertools.product(range(colours), repeat=len(web)):
                        self.assertIs(is_colouring(many, web, colours, thing), thing in right)
        check_judged(self, is_colouring, (2, (), 1), [()])
        check_judged(self, is_colouring, (2, WEB, 300), [(0, 1, 2, 1), (299, 0, 1, 2)])

    def test_other_things_are_not(self):
        right = (0, 2, 1, 2)
        self.assertIs(is_colouring(2, WEB, 3, right), True)
        for thing in ([*right], right[:3], right + (0,), (0, 2, 1, 1), (0, 0, 1, 2), (1, 2, 1, 0), (), (0, 3, 1, 2),
                      (0, -1, 1, 2), (0, 2, True, 2), (False, 2, 1, 2), (0,) * 60000):
            self.assertIs(is_colouring(2, WEB, 3, thing), False)
        for thing in with_each(right, odd_things()):
            self.assertIs(is_colouring(2, WEB, 3, thing), False)

    def test_colours_from_1_to_300(self):
        self.assertIs(is_colouring(1, ((0, 0),) * 300, 300, tuple(range(300))), True)
        self.assertIs(is_colouring(1, ((0, 0),) * 300, 300, tuple(range(1, 301))), False)
        self.assertIs(is_colouring(1, ((0, 0),), 1, (0,)), True)

    def test_errors_in_their_order(self):
        for call in (is_colouring, with_tie, coloured):
            rest = {is_colouring: (None,), with_tie: (None, None), coloured: ()}[call]
            for thing in not_integers_from(1, 12):
                check_raises(self, NoNumber, {}, call, thing, None, None, *rest)
            for thing in wrong_webs(2):
                check_raises(self, NoWeb, {}, call, 2, thing, None, *rest)
            for thing in not_integers_from(1, 300):
                check_raises(self, NoNumber, {}, call, 2, WEB, thing, *rest)


class Coloured(unittest.TestCase):
    def test_just_as_many_colours_as_the_degree(self):
        drawn = Drawn(31)
        large = [(12, drawn_web(drawn, 12, ties)) for ties in (20, 100, 300)] + [(3, drawn_web(drawn, 3, 300))]
        for many, web in [*small_webs(), *some_webs(), *large, (1, ((0, 0),) * 300), (12, ()), (1, ())]:
            most = degree(many, web)
            for colours in (most, most + 1, 300):
                if 1 <= colours <= 300:
                    told = coloured(many, web, colours)
                    self.assertIs(is_colouring(many, web, colours, told), True)
            if 1 < most:
                check_raises(self, TooFew, {"degree": most}, coloured, many, web, most - 1)
                check_raises(self, TooFew, {"degree": most}, coloured, many, web, 1)

    def test_fact_of_colours(self):
        for many, web in list(small_webs())[::9]:
            if len(web) <= 6:
                for colours in (1, 2, 3):
                    self.assertEqual(bool(plain_colourings(web, colours)), colours >= degree(many, web))


class WithTie(unittest.TestCase):
    def test_the_least_colour_that_is_free_at_both_ends(self):
        self.assertEqual(with_tie(2, (), 1, (), (1, 0)), ((0,), ()))
        self.assertEqual(with_tie(2, ((0, 0),), 300, (299,), (0, 0)), ((299, 0), ()))
        self.assertEqual(with_tie(2, ((0, 0),), 300, (0,), (0, 0)), ((0, 1), ()))
        self.assertEqual(with_tie(2, ((0, 0), (1, 1)), 3, (0, 1), (0, 1)), ((0, 2, 1), ()))
        self.assertEqual(with_tie(3, ((0, 0), (2, 2)), 3, (0, 0), (1, 1)), ((0, 0, 0), ()))

    def test_behind_all_that_are_no_greater(self):
        web = ((0, 0), (0, 1), (0, 1), (1, 0))
        for pair, place in (((0, 0), 1), ((0, 1), 3), ((0, 2), 3), ((1, 0), 4), ((2, 2), 4)):
            colouring, moved = with_tie(3, web, 9, (5, 6, 7, 8), pair)
            self.assertEqual((colouring[:place] + colouring[place + 1:], moved), ((5, 6, 7, 8), ()))
            self.assertEqual(colouring[place], 0)

    def test_rows_of_like_lengths(self):
        # Both rows have one tie: that of the output is exchanged.
        self.assertEqual(with_tie(2, ((0, 0), (1, 1)), 2, (0, 1), (0, 1)), ((0, 1, 0), (1,)))
        self.assertEqual(with_tie(2, ((0, 1), (1, 0)), 2, (1, 0), (0, 0)), ((0, 1, 1), (1,)))

    def test_a_shorter_row_of_the_line(self):
        # At output 0: ties (1, 0), (1, 1); at line 0: tie (0, 2) alone.
        web = ((0, 2), (1, 0), (1, 1))
        self.assertEqual(with_tie(3, web, 2, (0, 1, 0), (0, 0)), ((0, 1, 1, 0), (0,)))

    def test_a_shorter_row_of_the_output(self):
        web = ((0, 1), (1, 1), (1, 2), (2, 0))
        self.assertEqual(with_tie(3, web, 2, (0, 1, 0, 1), (0, 0)), ((1, 0, 1, 0, 0), (3,)))

    def test_drawn_ones_as_told_anew(self):
        drawn = Drawn(32)
        told = {None: 0, "line": 0, "output": 0, "alike": 0}
        longest = 0
        for many, colours, ties in [(2, 2, 4), (3, 3, 9), (4, 4, 16), (6, 5, 30), (12, 8, 96), (12, 25, 300)] * 6:
            web, colouring, free = (), (), colours
            for _ in range(2 * ties):
                pair = (drawn.below(many), drawn.below(many))
                if len(web) < ties and degree(many, put(web, pair)) <= free:
                    answer, which = plain_with_tie(web, free, colouring, pair)
                    self.assertEqual(with_tie(many, web, free, colouring, pair), answer)
                    self.check_facts(many, web, free, colouring, pair, answer)
                    web, colouring = put(web, pair), answer[0]
                    told[which] += 1
                    longest = max(longest, len(answer[1]))
        self.assertGreater(min(told.values()), 10)
        self.assertGreater(longest, 3)

    def check_facts(self, many, web, colours, colouring, pair, answer):
        turned, moved = answer
        self.assertIs(is_colouring(many, put(web, pair), colours, turned), True)
        self.assertLess(len(moved), many)
        place = len([tie for tie in web if tie <= pair])
        elder = turned[:place] + turned[place + 1:]
        self.assertEqual(moved, tuple([number for number in range(len(web)) if elder[number] != colouring[number]]))

    def test_small_ones_gone_through_whole(self):
        whiches = set()
        for web in itertools.combinations(list(itertools.product(range(3), repeat=2)), 4):
            for colours in (2, 3):
                for colouring in plain_colourings(web, colours):
                    for pair in itertools.product(range(3), repeat=2):
                        if degree(3, put(web, pair)) <= colours:
                            answer, which = plain_with_tie(web, colours, colouring, pair)
                            self.assertEqual(with_tie(3, web, colours, colouring, pair), answer)
                            whiches.add(which)
        self.assertEqual(len(whiches), 4)

    def test_errors_in_their_order(self):
        right = (0, 2, 1, 2)
        for thing in [*odd_things(), [*right], right[:3], (0, 0, 1, 2), (0, 3, 1, 2), (False, 2, 1, 2)]:
            check_raises(self, NotColoured, {}, with_tie, 2, WEB, 3, thing, None)
        for thing in wrong_pairs(2):
            check_raises(self, NoPair, {}, with_tie, 2, WEB, 3, right, thing)
        check_raises(self, NoPair, {}, with_tie, 1, ((0, 0),) * 300, 300, tuple(range(300)), (0, 1))
        for pair in ((0, 0), (1, 0), (1, 1)):
            new = degree(2, put(WEB, pair))
            if new > 3:
                check_raises(self, TooFew, {"degree": new}, with_tie, 2, WEB, 3, right, pair)
            else:
                self.assertEqual(len(with_tie(2, WEB, 3, right, pair)[0]), 5)
        check_raises(self, TooFew, {"degree": 4}, with_tie, 2, WEB, 3, right, (0, 0))
        check_raises(self, TooFew, {"degree": 2}, with_tie, 2, ((0, 0),), 1, (0,), (0, 1))
        check_raises(self, TooFew, {"degree": 301}, with_tie, 1, ((0, 0),) * 300, 300, tuple(range(300)), (0, 0))
        web = ((0, 0),) * 150 + ((1, 1),) * 150
        colouring = tuple(range(150)) * 2
        check_raises(self, NoWeb, {}, with_tie, 2, web, 300, colouring, (0, 0))
        check_raises(self, NoWeb, {}, with_tie, 2, web, 151, colouring, (0, 1))
        check_raises(self, TooFew, {"degree": 151}, with_tie, 2, web, 150, colouring, (0, 1))
        self.assertEqual(len(with_tie(2, web[1:], 300, colouring[1:], (0, 0))[0]), 300)


if __name__ == "__main__":
    unittest.main()
