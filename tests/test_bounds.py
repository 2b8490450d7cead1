"""Buckets and bounds: 10."""

import itertools
import unittest

from exactbeats.bounds import (Buckets, breach, greatest_burst, greatest_hold, greatest_top, greatest_wait, let_in,
                               most_sent, played, with_row, worst_stream, worst_stream_for)
from exactbeats.errors import BadBuckets, Boundless, NoCell, NoLine, NoNumber, NoStream
from tests.drawn import Drawn
from tests.odd import check_raises, not_integers_from, odd_things, with_each

B = Buckets(2, ((2, 1, 0), (2, 1, 1)))
WRONG_ROWS = [(), [2, 1, 0], (2, 1), (2, 1, 0, 0), (0, 1, 0), (21, 1, 0), (2, -1, 0), (2, 3, 0), (2, 1, -1), (2, 1, 8),
              (True, 1, 0), (2, True, 0), (2, 1, False), (None, 1, 0), ((2, 1, 0),), 0, False, "", {}]


def sent_plainly(bottom, row, beats):
    """The most cells of a line in so many beats, told anew."""
    return 0 if row is None else min(beats, row[0] + (row[1] * beats) // bottom)


def breach_plainly(buckets, stream):
    """10.1 told anew: each stretch is gone through."""
    for end in range(len(stream)):
        for line, row in enumerate(buckets.rows):
            for beginning in range(end, -1, -1):
                sent = len([lot for lot in stream[beginning:end + 1] if line in lot])
                if sent > sent_plainly(buckets.bottom, row, end + 1 - beginning):
                    return (line, beginning, end)
    return None


def played_plainly(buckets, stream):
    """10.2 told anew."""
    waiting, held, waits, beat = [], [], {}, 0
    while beat < len(stream) or waiting:
        if beat < len(stream):
            waiting += [(buckets.rows[line][2], beat, line) for line in stream[beat]]
        if waiting:
            going = min(waiting)
            waiting.remove(going)
            waits[going[1:]] = beat - going[1]
        if beat < len(stream):
            held.append(len(waiting))
        beat += 1
    return (tuple(held), [(beat, line, waits[beat, line]) for beat, line in sorted(waits)])


class Game:
    """All streams that keep buckets, gone through by how full the buckets are: those of a few small lines."""

    def __init__(self, buckets, lines):
        self.bottom, self.rows = buckets.bottom, [buckets.rows[line] for line in lines]

    def start(self):
        return (0,) * len(self.rows)

    def moves(self, full):
        """What lines may send in a beat: pairs of who sends, and how full the buckets are then."""
        for sends in itertools.product((0, 1), repeat=len(self.rows)):
            then = [level + self.bottom * sent - row[1] for level, sent, row in zip(full, sends, self.rows)]
            if all([level <= self.bottom * row[0] for level, row in zip(then, self.rows)]):
                yield sends, tuple([max(0, level) for level in then])

    def greatest_hold(self):
        """The most that is held in any state that can be reached."""
        seen, front = {(self.start(), 0)}, [(self.start(), 0)]
        while front:
            full, held = front.pop()
            for sends, then in self.moves(full):
                state = (then, max(0, held + sum(sends) - 1))
                if state not in seen:
                    seen.add(state)
                    front.append(state)
        return max([held for _, held in seen])

    def greatest_wait(self, kind):
        """The longest wait: from each state that can be reached behind which a cell of the kind comes last."""
        longest, memo = 0, {}
        seen, front = {(self.start(), 0)}, [(self.start(), 0)]
        while front:
            full, held = front.pop()
            for sends, then in self.moves(full):
                if any([sent and row[2] == kind for sent, row in zip(sends, self.rows)]):
                    longest = max(longest, self.wait(kind, then, held + sum(sends), memo))
                state = (then, max(0, held + sum(sends) - 1))
                if state not in seen:
                    seen.add(state)
                    front.append(state)
        return longest

    def wait(self, kind, full, ahead, memo):
        """How long a cell can wait, if so many cells go before it or are it, and lesser kinds go on to come."""
        if ahead == 1:
            return 0
        if (full, ahead) not in memo:
            memo[full, ahead] = 1 + max([
                self.wait(kind, then, ahead - 1 + sum(sends), memo) for sends, then in self.moves(full)
                if not any([sent and row[2] == kind for sent, row in zip(sends, self.rows)])])
        return memo[full, ahead]


def small_buckets(drawn, most_lines=3):
    bottom = 1 + drawn.below(4)
    rows = [None if drawn.flag(1, 7) else (1 + drawn.below(3), drawn.below(bottom + 1), drawn.below(3))
            for _ in range(1 + drawn.below(most_lines))]
    return Buckets(bottom, tuple(rows))


def big_buckets(drawn):
    bottom = 1 + drawn.below(20)
    left, rows = bottom, []
    for _ in range(1 + drawn.below(12)):
        top = drawn.below(left + 1) if drawn.flag(2, 3) else 0
        left -= top
        rows.append(None if drawn.flag(1, 9) else (1 + drawn.below(20), top, drawn.below(8)))
    return Buckets(bottom, tuple(rows))


def tops(buckets, kinds):
    return sum([row[1] for row in buckets.rows if row and row[2] in kinds])


def lines_of(buckets, kinds):
    return [line for line, row in enumerate(buckets.rows) if row and row[2] in kinds]


def drawn_stream(drawn, buckets, beats, keeps, nones=True):
    """A stream: if it keeps the buckets, each line sends in drawn beats in which it may."""
    stream = []
    for _ in range(beats):
        lot = [line for line, row in enumerate(buckets.rows) if drawn.flag(1, 2) and (row or nones)]
        if keeps:
            lot = [line for line in lot if breach_plainly(buckets, tuple(stream) + ((line,),)) is None]
        stream.append(tuple(lot))
    return tuple(stream)


class Making(unittest.TestCase):
    def test_attributes(self):
        rows = ((1, 0, 0), None, (20, 20, 7))
        buckets = Buckets(20, rows)
        self.assertEqual((buckets.bottom, buckets.rows), (20, rows))
        for many in (1, 12):
            self.assertEqual(Buckets(1, (None,) * many).rows, (None,) * many)

    def test_equal_if_both_are(self):
        self.assertTrue(B == Buckets(2, ((2, 1, 0), (2, 1, 1))))
        self.assertFalse(B != Buckets(2, ((2, 1, 0), (2, 1, 1))))
        for other in (Buckets(3, B.rows), Buckets(2, B.rows[:1]), Buckets(2, ((2, 1, 0), (2, 1, 2))),
                      Buckets(2, ((2, 1, 0), None)), Buckets(2, ((2, 1, 1), (2, 1, 0)))):
            self.assertFalse(B == other)
        for thing in [*odd_things(), (2, B.rows), B.rows, BadBuckets(0)]:
            self.assertFalse(B == thing)
            self.assertFalse(thing == B)

    def test_errors_in_their_order(self):
        for thing in not_integers_from(1, 20):
            check_raises(self, BadBuckets, {"part": "bottom"}, Buckets, thing, None)
        for thing in [thing for thing in odd_things() if not isinstance(thing, tuple)] + [
                (), ((1, 1, 1),) * 13, (None,) * 13, [(1, 1, 1)], (5,) * 60000]:
            check_raises(self, BadBuckets, {"part": "rows"}, Buckets, 2, thing)
        for thing in WRONG_ROWS + [thing for thing in odd_things() if thing is not None]:
            check_raises(self, BadBuckets, {"part": 0}, Buckets, 2, (thing, thing))
            check_raises(self, BadBuckets, {"part": 2}, Buckets, 2, (None, (2, 1, 0), thing, None))
        for row in with_each((2, 1, 0), odd_things()):
            check_raises(self, BadBuckets, {"part": 11}, Buckets, 2, (None,) * 11 + (row,))
        check_raises(self, BadBuckets, {"part": 0}, Buckets, 1, ((1, 2, 0),))


class Sent(unittest.TestCase):
    def test_most_sent(self):
        for bottom, row in ((1, (1, 0, 0)), (1, (1, 1, 0)), (2, (2, 1, 0)), (20, (20, 19, 0)), (7, (3, 5, 1)), (3, None)):
            buckets = Buckets(bottom, (None, row))
            told = [most_sent(buckets, 1, beats) for beats in range(100)]
            self.assertEqual(told, [sent_plainly(bottom, row, beats) for beats in range(100)])
            self.assertEqual([most_sent(buckets, 0, beats) for beats in (0, 1, 10 ** 9)], [0, 0, 0])
        self.assertEqual(most_sent(Buckets(20, ((20, 19, 0),)), 0, 10 ** 9), 20 + 950000000)
        self.assertEqual(most_sent(Buckets(7, ((3, 7, 0),)), 0, 10 ** 9), 10 ** 9)

    def test_errors(self):
        for thing in not_integers_from(0, 1):
            check_raises(self, NoLine, {}, most_sent, B, thing, None)
        for thing in not_integers_from(0, 10 ** 9):
            check_raises(self, NoNumber, {}, most_sent, B, 1, thing)


class Breaches(unittest.TestCase):
    def test_small_ones(self):
        self.assertEqual(breach(B, ((0,),) * 5), (0, 0, 4))
        self.assertIsNone(breach(B, ((0,),) * 4))
        self.assertIsNone(breach(B, ()))
        self.assertEqual(breach(B, ((),) * 3 + ((0, 1),) * 5), (0, 3, 7))
        self.assertEqual(breach(B, ((1,),) + ((0, 1),) * 5), (1, 0, 4))
        one = Buckets(3, (None, (1, 0, 0), (1, 1, 0)))
        self.assertEqual(breach(one, ((1,), (0, 1, 2))), (0, 1, 1))
        self.assertEqual(breach(one, ((1,), (), (), (1,))), (1, 0, 3))
        self.assertEqual(breach(one, ((2,), (2,))), (2, 0, 1))
        self.assertIsNone(breach(one, ((1, 2), (), (2,))))
        # The greatest beginning: the shortest stretch with this end.
        two = Buckets(1, ((2, 0, 0),))
        self.assertEqual(breach(two, ((0,), (), (0,), (), (0,))), (0, 0, 4))

    def test_as_told_anew(self):
        drawn = Drawn(101)
        kept = 0
        for _ in range(400):
            buckets = small_buckets(drawn, 4)
            stream = drawn_stream(drawn, buckets, drawn.below(16), drawn.flag(1, 2), drawn.flag(1, 2))
            told = breach(buckets, stream)
            self.assertEqual(told, breach_plainly(buckets, stream))
            kept += told is None
        self.assertTrue(30 < kept < 370, kept)

    def test_long_ones(self):
        buckets = Buckets(20, ((20, 7, 0),) * 12)
        soon = tuple([tuple(range(12)) if sent_plainly(20, (20, 7, 0), beat + 1) > sent_plainly(20, (20, 7, 0), beat)
                      else () for beat in range(6000)])
        self.assertIsNone(breach(buckets, soon))
        late = [beat for beat in range(5000, 6000) if not soon[beat]][0]
        # Beats 0 to that one are full just ahead of it: one cell more is too many.
        told = breach(buckets, soon[:late] + ((11,),) + soon[late + 1:])
        self.assertEqual(told, breach_plainly_of(buckets, soon, 11, late))

    def test_no_streams(self):
        wrong = [thing for thing in odd_things() if thing != ()] + [((),) * 6001, [()], [(0,)], ([0],), ((0, 0),),
                                                                    ((1, 0),), ((2,),), ((-1,),), ((True,),),
                                                                    ((0,), 0), (0,), ((0,), None), ((), (0, 1, 2))]
        for thing in wrong:
            if thing not in (((),), ((), ()), ((), (), ()), ((),) * 60000) or len(thing) > 6000:
                check_raises(self, NoStream, {}, breach, B, thing)
                check_raises(self, NoStream, {}, played, B, thing)
        self.assertIsNone(breach(B, ((),) * 6000))
        self.assertEqual(played(B, ((),) * 6000), ((0,) * 6000, []))


def breach_plainly_of(buckets, stream, line, end):
    """The breach of a stream that a cell more of a line in a beat makes."""
    for beginning in range(end, -1, -1):
        sent = 1 + len([lot for lot in stream[beginning:end] if line in lot])
        if sent > sent_plainly(buckets.bottom, buckets.rows[line], end + 1 - beginning):
            return (line, beginning, end)
    return None


class Played(unittest.TestCase):
    def test_small_ones(self):
        self.assertEqual(played(B, ()), ((), []))
        self.assertEqual(played(B, ((0, 1),) * 2), ((1, 2), [(0, 0, 0), (0, 1, 2), (1, 0, 0), (1, 1, 2)]))
        # The least kind ahead, of one kind the first that came, of one beat the least line.
        rows = Buckets(1, ((1, 1, 3), (1, 1, 1), (1, 1, 3)))
        self.assertEqual(played(rows, ((0, 2), (1,), (1, 2))),
                         ((1, 1, 2), [(0, 0, 0), (0, 2, 3), (1, 1, 0), (2, 1, 0), (2, 2, 2)]))
        # It needn't keep the buckets.
        self.assertEqual(played(Buckets(1, ((1, 0, 0),)), ((0,),) * 4), ((0,) * 4, [(beat, 0, 0) for beat in range(4)]))

    def test_as_told_anew(self):
        drawn = Drawn(102)
        for _ in range(250):
            buckets = big_buckets(drawn)
            stream = drawn_stream(drawn, buckets, drawn.below(25), False, False)
            told = played(buckets, stream)
            self.assertEqual(told, played_plainly(buckets, stream))
            self.assertEqual((told[0].__class__, told[1].__class__), (tuple, list))

    def test_a_line_of_none(self):
        rows = Buckets(2, ((2, 1, 0), None, (1, 1, 1)))
        check_raises(self, NoStream, {}, played, rows, ((0,), (0, 1)))
        check_raises(self, NoStream, {}, played, rows, ((1,),))
        self.assertEqual(played(rows, ((0, 2),))[0], (1,))

    def test_lists_are_new(self):
        played(B, ((0,),))[1].clear()
        self.assertEqual(played(B, ((0,),))[1], [(0, 0, 0)])

    def test_the_longest(self):
        rows = Buckets(1, ((1, 1, 0),) * 12)
        held, waits = played(rows, (tuple(range(12)),) * 6000)
        self.assertEqual((held[-1], len(waits), waits[-1]), (66000, 72000, (5999, 11, 72000 - 6000)))


class Holds(unittest.TestCase):
    def test_small_ones(self):
        for bottom, rows, told in (
                (2, B.rows, 4), (1, (None,), 0), (1, ((1, 1, 0),), 0), (20, ((20, 0, 0),), 0), (1, ((3, 0, 0),) * 2, 3),
                (1, ((1, 1, 0), (1, 0, 5)), 1), (1, ((1, 1, 0), (1, 1, 5)), None), (2, ((1, 1, 0), (1, 1, 5)), 2),
                (3, ((1, 1, 0),) * 4, None), (1, ((20, 0, 0),) * 12, 220), (20, ((20, 1, 0),) * 12, 11 * 21)):
            self.assertEqual(greatest_hold(Buckets(bottom, rows)), told, (bottom, rows))

    def test_none_exactly_if_the_tops_are_above_bottom(self):
        drawn = Drawn(103)
        for _ in range(300):
            buckets = small_buckets(drawn, 4)
            self.assertEqual(greatest_hold(buckets) is None, tops(buckets, range(8)) > buckets.bottom)

    def test_it_is_that_of_all_streams(self):
        drawn = Drawn(104)
        looked = 0
        while looked < 60:
            buckets = small_buckets(drawn)
            if tops(buckets, range(8)) <= buckets.bottom:
                looked += 1
                self.assertEqual(greatest_hold(buckets), Game(buckets, lines_of(buckets, range(8))).greatest_hold())

    def test_by_the_fact_of_holds(self):
        drawn = Drawn(105)
        for _ in range(60):
            buckets = big_buckets(drawn)
            told = [sum([sent_plainly(buckets.bottom, row, beats) for row in buckets.rows]) - beats
                    for beats in range(1500)]
            self.assertEqual(greatest_hold(buckets), max(told))

    def test_worst_streams(self):
        self.assertEqual(worst_stream(B), ((0, 1),) * 4)
        self.assertEqual(worst_stream(Buckets(1, (None, (5, 1, 0)))), ())
        self.assertEqual(worst_stream(Buckets(1, ((1, 0, 0), None, (1, 0, 0)))), ((0, 2),))
        self.assertEqual(worst_stream(Buckets(2, ((1, 1, 0), (1, 1, 0)))), ((0, 1), (0, 1)))
        check_raises(self, Boundless, {}, worst_stream, Buckets(1, ((1, 1, 0),) * 2))
        drawn = Drawn(106)
        for number in range(120):
            buckets = big_buckets(drawn) if number % 2 else small_buckets(drawn, 4)
            if tops(buckets, range(8)) > buckets.bottom:
                check_raises(self, Boundless, {}, worst_stream, buckets)
                continue
            stream = worst_stream(buckets)
            self.assertEqual(stream, soonest(buckets, len(stream)))
            self.assertIsNone(breach(buckets, stream))
            held = played(buckets, stream)[0] if stream else (0,)
            most = greatest_hold(buckets)
            self.assertEqual((held[-1], [each for each in held[:-1] if each >= most]), (most, []))


def soonest(buckets, beats):
    """Each line sends as soon as it may: told anew, cell by cell."""
    sent, stream = [[] for _ in buckets.rows], []
    for beat in range(beats):
        lot = []
        for line, row in enumerate(buckets.rows):
            if row and all([1 + len([each for each in sent[line] if each >= beginning])
                            <= sent_plainly(buckets.bottom, row, beat + 1 - beginning)
                            for beginning in range(beat + 1)]):
                sent[line].append(beat)
                lot.append(line)
        stream.append(tuple(lot))
    return tuple(stream)


class Waits(unittest.TestCase):
    def test_small_ones(self):
        self.assertEqual([greatest_wait(B, kind) for kind in range(8)], [0, 7, 0, 0, 0, 0, 0, 0])
        for bottom, rows, kind, told in (
                (1, ((1, 1, 0),), 0, 0), (1, ((1, 1, 0), (1, 0, 0)), 0, 1), (1, ((1, 1, 0), (1, 0, 1)), 1, None),
                (1, ((1, 1, 0), (1, 0, 1)), 0, 0), (2, ((1, 1, 0), (1, 0, 1)), 1, 2), (2, ((2, 1, 0), (2, 2, 1)), 1, None),
                (2, ((2, 1, 0), (2, 2, 1)), 0, 0), (1, ((3, 0, 2), (4, 0, 3)), 3, 3), (1, (None, None), 0, 0)):
            self.assertEqual(greatest_wait(Buckets(bottom, rows), kind), told, (bottom, rows, kind))

    def boundless(self, buckets, kind):
        lesser, own = tops(buckets, range(kind)), tops(buckets, [kind])
        return lesser + own > buckets.bottom or lesser >= buckets.bottom

    def test_none_exactly_if_there_is_no_bound(self):
        drawn = Drawn(107)
        nones = 0
        for _ in range(300):
            buckets = small_buckets(drawn, 4)
            for kind in range(4):
                told = greatest_wait(buckets, kind)
                if not lines_of(buckets, [kind]):
                    self.assertEqual(told, 0)
                else:
                    self.assertEqual(told is None, self.boundless(buckets, kind))
                    nones += told is None
        self.assertGreater(nones, 30)

    def test_it_is_that_of_all_streams(self):
        drawn = Drawn(108)
        looked = 0
        while looked < 60:
            buckets, kind = small_buckets(drawn), drawn.below(3)
            if lines_of(buckets, [kind]) and not self.boundless(buckets, kind):
                looked += 1
                game = Game(buckets, lines_of(buckets, range(kind + 1)))
                self.assertEqual(greatest_wait(buckets, kind), game.greatest_wait(kind))

    def test_by_the_fact_of_waits(self):
        drawn = Drawn(109)
        looked = 0
        while looked < 25:
            buckets, kind = big_buckets(drawn), drawn.below(8)
            if lines_of(buckets, [kind]) and not self.boundless(buckets, kind):
                looked += 1
                own = [buckets.rows[line] for line in lines_of(buckets, [kind])]
                lesser = [buckets.rows[line] for line in lines_of(buckets, range(kind))]
                waits, end = [], 1
                for beats in range(1, 600):
                    end = max(end, beats)
                    while end < sum([sent_plainly(buckets.bottom, row, beats) for row in own]) + sum(
                            [sent_plainly(buckets.bottom, row, end) for row in lesser]):
                        end += 1
                    waits.append(end - beats)
                self.assertEqual(greatest_wait(buckets, kind), max(waits))

    def test_worst_streams(self):
        drawn = Drawn(110)
        looked = 0
        hard = [Buckets(20, ((20, 19, 0),) + ((20, 0, 0),) * 10 + ((20, 1, 1),)),
                Buckets(20, ((20, 19, 0),) + ((20, 0, 1),) * 10 + ((20, 1, 1),)),
                Buckets(20, ((20, 19, 0),) * 1 + ((20, 0, 1),) * 11), Buckets(20, ((20, 1, 7),) * 12)]
        while looked < 150:
            buckets = hard.pop() if hard else small_buckets(drawn, 4) if looked % 2 else big_buckets(drawn)
            for kind in range(8):
                if not lines_of(buckets, [kind]):
                    check_raises(self, NoCell, {}, worst_stream_for, buckets, kind)
                elif self.boundless(buckets, kind):
                    check_raises(self, Boundless, {}, worst_stream_for, buckets, kind)
                else:
                    looked += 1
                    stream = worst_stream_for(buckets, kind)
                    self.assertIsNone(breach(buckets, stream))
                    waits = [wait for _, line, wait in played(buckets, stream)[1] if buckets.rows[line][2] == kind]
                    self.assertEqual(max(waits), greatest_wait(buckets, kind))

    def test_errors_in_their_order(self):
        for thing in not_integers_from(0, 7):
            check_raises(self, NoNumber, {}, greatest_wait, B, thing)
            check_raises(self, NoNumber, {}, worst_stream_for, B, thing)
        check_raises(self, NoCell, {}, worst_stream_for, Buckets(1, ((1, 1, 0),) * 2), 1)


class LetIn(unittest.TestCase):
    def test_with_row(self):
        for row in (None, (1, 0, 0), (20, 2, 7)):
            self.assertEqual(with_row(B, 0, row), Buckets(2, (row, (2, 1, 1))))
            self.assertEqual(with_row(B, 1, row), Buckets(2, ((2, 1, 0), row)))
        self.assertEqual(B, Buckets(2, ((2, 1, 0), (2, 1, 1))))
        self.assertIsInstance(with_row(B, 0, None), Buckets)

    def test_let_in(self):
        for row, hold in ((None, 0), ((1, 1, 0), 3), ((2, 1, 5), 4), ((2, 0, 0), 2), ((2, 2, 0), None)):
            self.assertEqual(greatest_hold(with_row(B, 0, row)), hold)
            for most in (0, 1, 2, 3, 4, 5, 10 ** 9):
                self.assertIs(let_in(B, 0, row, most), hold is not None and hold <= most)

    def test_greatest_burst_and_top(self):
        drawn = Drawn(111)
        told = set()
        for _ in range(40):
            buckets = small_buckets(drawn, 4)
            line, kind, most = drawn.below(len(buckets.rows)), drawn.below(8), drawn.among([0, 1, 2, 5, 9, 20, 10 ** 9])
            top, burst = drawn.below(buckets.bottom + 1), 1 + drawn.below(20)
            bursts = [each for each in range(1, 21) if let_in(buckets, line, (each, top, kind), most)]
            tops_in = [each for each in range(buckets.bottom + 1) if let_in(buckets, line, (burst, each, kind), most)]
            self.assertEqual(greatest_burst(buckets, line, top, kind, most), max(bursts, default=None))
            self.assertEqual(greatest_top(buckets, line, burst, kind, most), max(tops_in, default=None))
            told.add(max(bursts, default=None))
        self.assertLessEqual({None, 20}, told)
        self.assertEqual(greatest_burst(B, 0, 1, 3, 4), 2)
        self.assertEqual(greatest_top(B, 0, 2, 3, 4), 1)
        self.assertIsNone(greatest_burst(B, 0, 2, 3, 10 ** 9))
        self.assertEqual(greatest_burst(Buckets(1, (None,)), 0, 1, 0, 0), 20)
        self.assertEqual(greatest_top(Buckets(20, (None,)), 0, 20, 0, 0), 20)
        self.assertEqual(greatest_top(Buckets(20, (None, (1, 20, 0))), 0, 1, 0, 1), 0)

    def test_errors_in_their_order(self):
        for thing in not_integers_from(0, 1):
            check_raises(self, NoLine, {}, with_row, B, thing, 0)
            check_raises(self, NoLine, {}, let_in, B, thing, 0, None)
            check_raises(self, NoLine, {}, greatest_burst, B, thing, -1, -1, -1)
            check_raises(self, NoLine, {}, greatest_top, B, thing, -1, -1, -1)
        for thing in WRONG_ROWS + [thing for thing in odd_things() if thing is not None]:
            for line in (0, 1):
                check_raises(self, BadBuckets, {"part": line}, with_row, B, line, thing)
                check_raises(self, BadBuckets, {"part": line}, let_in, B, line, thing, None)
        for thing in not_integers_from(0, 2):
            check_raises(self, BadBuckets, {"part": 1}, greatest_burst, B, 1, thing, 0, None)
        for thing in not_integers_from(1, 20):
            check_raises(self, BadBuckets, {"part": 1}, greatest_top, B, 1, thing, 0, None)
        for thing in not_integers_from(0, 7):
            check_raises(self, BadBuckets, {"part": 0}, greatest_burst, B, 0, 1, thing, None)
            check_raises(self, BadBuckets, {"part": 0}, greatest_top, B, 0, 1, thing, None)
        for thing in not_integers_from(0, 10 ** 9):
            check_raises(self, NoNumber, {}, let_in, B, 0, None, thing)
            check_raises(self, NoNumber, {}, greatest_burst, B, 0, 1, 0, thing)
            check_raises(self, NoNumber, {}, greatest_top, B, 0, 1, 0, thing)


if __name__ == "__main__":
    unittest.main()
