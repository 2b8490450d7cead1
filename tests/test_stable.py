"""Matchings, what blocks them, stable ones: 5.1 to 5.3."""

import itertools
import unittest

from exactbeats.errors import NoMatching, TooMany
from exactbeats.rows import copies_for, is_standing
from exactbeats.stable import (all_stable, blocks, is_matching, is_stable, matched, stable_for_outputs, stable_matching)
from tests.drawn import Drawn, drawn_standing
from tests.odd import check_judged, check_raises, nested, not_integers_from, odd_things, with_each

# Each line has the other one's least key ahead: two stable matchings.
CROSSED = (((0, (1, 0)), (1, (0, 0))), ((1, (1, 1)), (0, (0, 1))))


def every_matching(standing):
    """All matchings, by trying all rows of places."""
    found = []
    for places in itertools.product(*[[None, *range(len(row))] for row in standing]):
        going = [(line, standing[line][place][0], place) for line, place in enumerate(places) if place is not None]
        if len({output for _, output, _ in going}) == len(going):
            found.append(tuple(going))
    return found


def blocking_copies(standing, matching):
    """5.1 told anew: the copies that block, each judged on its own."""
    goes = {(line, place) for line, _, place in matching}
    keys = [standing[line][place] for line, _, place in matching]
    found = []
    for line, row in enumerate(standing):
        for place, (output, key) in enumerate(row):
            ahead = any((line, other) in goes for other in range(place))
            lesser = any(out == output and other < key for out, other in keys)
            if (line, place) not in goes and not ahead and not lesser:
                found.append((line, place))
    return found


def by_rounds(standing, order):
    """5.2's asks of lines told anew, with the lines asking by an order."""
    kept, asked = {}, [0] * len(standing)
    while True:
        able = [line for line in order if asked[line] < len(standing[line])
                and line not in [holder for _, holder, _ in kept.values()]]
        if not able:
            return tuple(sorted([(line, output, place) for output, (_, line, place) in kept.items()]))
        line = able[0]
        output, key = standing[line][asked[line]]
        kept[output] = min([kept.get(output, (key, line, asked[line])), (key, line, asked[line])])
        asked[line] += 1


def small_standings():
    """All standings of up to two lines, and of rows of up to two copies each, of few keys."""
    for lines in (1, 2):
        copies = [(output, (0, number)) for output in range(lines) for number in range(2)]
        rows = [row for many in range(3) for row in itertools.permutations(copies, many)]
        for standing in itertools.product(rows, repeat=lines):
            if is_standing(standing):
                yield standing


def some_standings():
    drawn = Drawn(5)
    sizes = [(1, 5), (2, 4), (3, 3), (3, 5), (4, 4), (5, 3), (6, 2), (12, 1)]
    return [drawn_standing(drawn, lines, longest) for lines, longest in sizes * 12]


class Matchings(unittest.TestCase):
    def test_matchings_are_known(self):
        standing = (((0, (0, 0)), (1, (0, 0))), ((0, (0, 1)), (0, (0, 2))))
        right = [(), ((0, 0, 0),), ((0, 1, 1),), ((1, 0, 0),), ((1, 0, 1),), ((0, 1, 1), (1, 0, 0)),
                 ((0, 1, 1), (1, 0, 1))]
        self.assertEqual(sorted(every_matching(standing)), sorted(right))
        check_judged(self, is_matching, (standing,), right)

    def test_other_things_are_not(self):
        standing = (((0, (0, 0)), (1, (0, 0))), ((0, (0, 1)), (0, (0, 2))))
        for thing in ([(0, 0, 0)], ([0, 0, 0],), ((0, 0),), ((0, 0, 0, 0),), (0, 0, 0), ((0, 0, 0), (0, 0, 0)),
                      ((0, 0, 0), (1, 0, 0)), ((1, 0, 0), (0, 1, 1)), ((0, 0, 0), (0, 1, 1)), ((0, 1, 0),),
                      ((0, 0, 1),), ((2, 0, 0),), ((-1, 0, 0),), ((0, 0, -2),), ((0, 0, 2),), ((0, -1, 0),),
                      ((1, 0, 0), (1, 0, 1)),
                      ((0, 0, 0), None), ((0, 0, 0),) * 20000, ((1, 0, 0), (1, 0, 0)), ((1, 1, 1),), ((0, 2, 0),)):
            self.assertIs(is_matching(standing, thing), False)
            self.assertIs(is_stable(standing, thing), False)
            for call in (blocks, matched):
                check_raises(self, NoMatching, {}, call, standing, thing)
        for thing in with_each((0, 1, 1), [*not_integers_from(0, 10 ** 60), nested(37, tuple)]):
            self.assertIs(is_matching(standing, (thing,)), False)

    def test_flags_are_no_integers(self):
        standing = (((1, (0, 0)), (0, (0, 0))), ((0, (0, 1)), (1, (0, 1))))
        for right in ((0, 1, 0), (0, 0, 1), (1, 0, 0), (1, 1, 1)):
            self.assertIs(is_matching(standing, (right,)), True)
            for place in range(3):
                wrong = right[:place] + (bool(right[place]),) + right[place + 1:]
                self.assertIs(is_matching(standing, (wrong,)), False)

    def test_all_of_them(self):
        for standing in list(small_standings())[::7] + some_standings()[::5]:
            if len(standing) <= 4:
                matchings = every_matching(standing)
                for matching in matchings:
                    self.assertIs(is_matching(standing, matching), True)
                    self.assertEqual(blocks(standing, matching), blocking_copies(standing, matching))
                    self.assertIs(is_stable(standing, matching), not blocking_copies(standing, matching))

    def test_odd_things_are_no_matchings(self):
        for standing in (((),), CROSSED):
            check_judged(self, is_matching, (standing,), [()])
            for thing in odd_things():
                if thing != ():
                    self.assertIs(is_stable(standing, thing), False)
                    for call in (blocks, matched):
                        check_raises(self, NoMatching, {}, call, standing, thing)

    def test_what_blocks(self):
        standing = (((0, (0, 0)), (1, (0, 0)), (0, (5, 5))), ((0, (0, 1)), (1, (0, 1))))
        self.assertEqual(blocks(standing, ()), [(0, 0), (0, 1), (0, 2), (1, 0), (1, 1)])
        self.assertEqual(blocks(standing, ((0, 0, 0),)), [(1, 1)])
        self.assertEqual(blocks(standing, ((0, 0, 0), (1, 1, 1))), [])
        self.assertEqual(blocks(standing, ((0, 0, 2),)), [(0, 0), (0, 1), (1, 0), (1, 1)])
        self.assertEqual(blocks(standing, ((0, 1, 1), (1, 0, 0))), [(0, 0)])
        self.assertEqual(blocks(((), ()), ()), [])
        self.assertIsNot(blocks(((),), ()), blocks(((),), ()))


class StableOnes(unittest.TestCase):
    def test_two_for_crossed_rows(self):
        of_lines, of_outputs = ((0, 0, 0), (1, 1, 0)), ((0, 1, 1), (1, 0, 1))
        self.assertEqual(stable_matching(CROSSED), of_lines)
        self.assertEqual(stable_for_outputs(CROSSED), of_outputs)
        self.assertEqual(all_stable(CROSSED), [of_lines, of_outputs])

    def test_empty_rows(self):
        for lines in (1, 12):
            empty = ((),) * lines
            self.assertEqual((stable_matching(empty), stable_for_outputs(empty), all_stable(empty)), ((), (), [()]))

    def test_one_line_with_many_copies_for_its_output(self):
        row = ((0, (3, 0)), (0, (1, 0)), (0, (2, 0)))
        self.assertEqual(stable_matching((row,)), ((0, 0, 0),))
        self.assertEqual(stable_for_outputs((row,)), ((0, 0, 1),))
        self.assertEqual(all_stable((row,)), [((0, 0, 0),), ((0, 0, 1),)])

    def test_several_copies_of_a_line_for_one_output(self):
        # The first one is refused, the later one of a lesser key is kept.
        standing = (((0, (5, 0)), (0, (1, 1))), ((0, (3, 2)), (1, (0, 2))))
        self.assertEqual(stable_matching(standing), ((0, 0, 1), (1, 1, 1)))
        self.assertEqual(stable_for_outputs(standing), ((0, 0, 1), (1, 1, 1)))
        self.assertEqual(all_stable(standing), [((0, 0, 1), (1, 1, 1))])

    def test_equal_ranks_go_by_numbers(self):
        standing = (((0, (1, 4)),), ((0, (1, 2)),), ((0, (1, 3)),))
        for call in (stable_matching, stable_for_outputs):
            self.assertEqual(call(standing), ((1, 0, 0),))

    def test_small_ones_gone_through_whole(self):
        for standing in small_standings():
            self.check_facts(standing)

    def test_drawn_ones(self):
        for standing in some_standings():
            self.check_facts(standing)

    def check_facts(self, standing):
        told = all_stable(standing)
        right = [matching for matching in every_matching(standing) if not blocking_copies(standing, matching)]
        self.assertEqual(told, sorted(right))
        self.assertTrue(told)
        lines, outputs = stable_matching(standing), stable_for_outputs(standing)
        self.assertIn(lines, told)
        self.assertIn(outputs, told)
        self.assertEqual(blocks(standing, lines), [])
        self.assertEqual(blocks(standing, outputs), [])
        for matching in told:
            self.assertEqual([line for line, _, _ in matching], [line for line, _, _ in lines])
            self.assertEqual({output for _, output, _ in matching}, {output for _, output, _ in lines})
            for (line, _, place), (_, _, ahead), (_, _, behind) in zip(matching, lines, outputs):
                self.assertTrue(ahead <= place <= behind)
            keys = self.keys(standing, matching)
            for output, key in keys.items():
                self.assertTrue(self.keys(standing, outputs)[output] <= key <= self.keys(standing, lines)[output])

    def keys(self, standing, matching):
        return {output: standing[line][place][1] for line, output, place in matching}

    def test_whichever_line_asks_first(self):
        drawn = Drawn(6)
        for standing in some_standings():
            order = drawn.mixed(range(len(standing)))
            self.assertEqual(by_rounds(standing, order), stable_matching(standing))
            self.assertEqual(by_rounds(standing, order[::-1]), stable_matching(standing))

    def test_outputs_are_the_lines_of_the_turned_standing(self):
        # Outputs that ask by keys are lines with rows of these, the keys being the places at the lines.
        for standing in some_standings():
            turned = tuple([tuple([(line, (place, line)) for _, line, place in copies_for(standing, output)])
                            for output in range(len(standing))])
            told = by_rounds(turned, range(len(turned)))
            asked = [(line, output, turned[output][at][1][0]) for output, line, at in told]
            self.assertEqual(stable_for_outputs(standing), tuple(sorted(asked)))

    def test_large_ones(self):
        drawn = Drawn(7)
        for _ in range(5):
            standing = drawn_standing(drawn, 12, 100, 50)
            for matching in (stable_matching(standing), stable_for_outputs(standing)):
                self.assertEqual(blocking_copies(standing, matching), [])
        row = tuple([(0, (-number, number)) for number in range(11000)])
        self.assertEqual(stable_matching((row,)), ((0, 0, 0),))
        self.assertEqual(stable_for_outputs((row,)), ((0, 0, 10999),))
        self.assertEqual(all_stable((row,)), [((0, 0, place),) for place in range(11000)])

    def test_a_product_of_20000_and_above(self):
        rows = [tuple([(0, (-number, number)) for number in range(199)]),
                tuple([(1, (0, number)) for number in range(99)])]
        standing = (*rows, ())
        self.assertEqual(len(all_stable(standing)), 199)
        longer = (rows[0], rows[1], ((2, (0, 0)),))
        check_raises(self, TooMany, {"most": 20000}, all_stable, longer)
        # 3 * 59 * 113 = 20001.
        for lengths, fits in (((2, 58, 112), False), ((2, 58, 111), True), ((9, 9, 9, 19, 0), True),
                              ((9, 9, 9, 20), False)):
            some = tuple([tuple([(line, (0, number)) for number in range(length)])
                          for line, length in enumerate(lengths)])
            if fits:
                self.assertEqual(all_stable(some), [stable_matching(some)])
            else:
                check_raises(self, TooMany, {"most": 20000}, all_stable, some)
        check_raises(self, TooMany, {"most": 20000}, all_stable, ((*[(0, (0, n)) for n in range(9999)],),
                                                                  ((1, (0, 0)), (1, (0, 1)))))

    def test_lists_are_new(self):
        first = all_stable(CROSSED)
        first.clear()
        self.assertEqual(len(all_stable(CROSSED)), 2)


class Matched(unittest.TestCase):
    def test_what_stays_and_what_goes(self):
        left = (((0, (1, 0)),), ((1, (1, 1)),))
        self.assertEqual(matched(CROSSED, ((0, 1, 1), (1, 0, 1))), (left, ((0, (0, 1)), (1, (0, 0)))))
        self.assertEqual(matched(CROSSED, ()), (CROSSED, ()))
        standing = (((1, (0, 0)), (0, (4, 0)), (1, (9, 9))), ((0, (3, 3)),), ())
        self.assertEqual(matched(standing, ((0, 1, 2), (1, 0, 0))),
                         ((((1, (0, 0)), (0, (4, 0))), (), ()), ((0, (3, 3)), (1, (9, 9)))))

    def test_drawn_ones(self):
        for standing in some_standings():
            for matching in (stable_matching(standing), stable_for_outputs(standing)):
                left, gone = matched(standing, matching)
                self.assertIs(is_standing(left), True)
                self.assertEqual(gone, tuple(sorted([standing[line][place] for line, _, place in matching])))
                for line, row in enumerate(standing):
                    stays = [copy for copy in row if copy not in gone]
                    self.assertEqual(list(left[line]), stays)


if __name__ == "__main__":
    unittest.main()
