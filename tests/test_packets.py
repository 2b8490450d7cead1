"""Packets: 14.1 and 14.2."""

import copy
import unittest

from exactbeats.cells import cells, is_arrivals
from exactbeats.errors import BadLoad, BadRows, Mixed, NoLines, NoMost, NoNumber, NoOutput, NoPacket, NoPrograms, Twice
from exactbeats.packets import Gatherer, cells_in, delivered, is_load, laid
from exactbeats.ranks import Program
from tests.drawn import Drawn
from tests.odd import check_judged, check_raises, not_integers_from, odd_things, with_each
from tests.test_accounts import plain_run
from tests.test_ranks import drawn_block

Z = Program(())
P = (1, 2, (0,), (9, 8, 7, 6, 5))
WRONG_WORDS = [(), [1], 1, "a", b"a", None, (256,), (-1,), (True,), ("1",), (None,), (1, [2]), ((1,),), (0,) * 41]


def words_of(many, first=0):
    return tuple([(first + 7 * at) % 256 for at in range(many)])


def load(packet, part, left, words):
    """A load with the right check, told anew."""
    total = 7 * part + 11 * left + 13 * packet
    for place in range(len(words)):
        total += (place + 1) * words[place]
    return (packet, part, left, words, total % 251)


def loads_of(number, words):
    parts = [words[at:at + 4] for at in range(0, len(words), 4)]
    return [load(number, part, len(parts) - part - 1, told) for part, told in enumerate(parts)]


def drawn_packet(drawn, lines, most):
    return (drawn.below(100), drawn.below(8), drawn.lot(lines, 1 + drawn.below(min(most, lines))),
            tuple([drawn.below(256) for _ in range(1 + drawn.below(40))]))


def drawn_rows(drawn, lines, most, many):
    rows = []
    for _ in range(lines):
        row, beat = [], 0
        for _ in range(drawn.below(many + 1)):
            beat = min(100, beat + drawn.below(12))
            row.append((beat, drawn_packet(drawn, lines, most)))
        rows.append(tuple(row))
    return tuple(rows)


def laid_anew(lines, rows):
    """14.1 told anew, beat by beat: each line has a queue of the cells that still come."""
    number, waiting = 0, []
    for row in rows:
        queue = []
        for beat, (stream, kind, outs, words) in row:
            queue += [(beat, (stream, kind, outs), told) for told in loads_of(number, words)]
            number += 1
        waiting.append(queue)
    arrivals, loads, beat = [], {}, 0
    while any(waiting):
        coming = []
        for queue in waiting:
            if queue and queue[0][0] <= beat:
                _, arrival, told = queue.pop(0)
                coming.append(arrival)
                loads[len(loads)] = told
            else:
                coming.append(None)
        arrivals.append(tuple(coming))
        beat += 1
    return tuple(arrivals), loads


class Packets(unittest.TestCase):
    def test_cells_in(self):
        for many in range(1, 41):
            self.assertEqual(cells_in((0, 0, (0,), words_of(many))), -(-many // 4))
        for packet in ((99, 7, (9, 10, 11), (255,)), (0, 0, (11,), (0,) * 40), P):
            self.assertIn(cells_in(packet), (1, 10, 2))

    def test_no_packet(self):
        for thing in [*odd_things(), list(P), P[:3], P + (0,), *with_each(P, odd_things())]:
            check_raises(self, NoPacket, {}, cells_in, thing)
        for place, things in ((0, [-1, 100, True]), (1, [-1, 8, False]),
                              (2, [(), (12,), (-1,), (0, 0), (1, 0), (0, 1, 2, 3), [0], 0, (True,), (False,)]),
                              (3, WRONG_WORDS)):
            for thing in things:
                check_raises(self, NoPacket, {}, cells_in, P[:place] + (thing,) + P[place + 1:])


class Loads(unittest.TestCase):
    def test_right_ones(self):
        right = [(0, 1, 0, (5,), 12), (0, 0, 1, (9, 8, 7, 6), 81), load(10 ** 9, 0, 0, (255,) * 4), load(3, 9, 0, (0,)),
                 load(3, 0, 9, (1, 2, 3, 4)), load(3, 4, 5, (1, 2, 3, 4)), load(0, 0, 0, (0,)), load(7, 8, 1, (0,) * 4),
                 load(250, 0, 0, (1, 1)), load(5, 0, 0, (1, 2, 3))]
        check_judged(self, is_load, (), right)

    def test_wrong_checks(self):
        right = load(77, 3, 2, (250, 1, 99, 4))
        for check in range(251):
            self.assertIs(is_load(right[:4] + (check,)), check == right[4])
        for check in (right[4] + 251, right[4] - 251, -1, 251):
            self.assertIs(is_load(right[:4] + (check,)), False)
        one = load(0, 0, 0, (1,))
        self.assertEqual(one[4], 1)
        self.assertIs(is_load(one), True)
        self.assertIs(is_load(one[:4] + (True,)), False)
        self.assertIs(is_load(load(0, 0, 0, (0,))[:4] + (False,)), False)

    def test_each_part_counts_in_the_check(self):
        right = load(5, 2, 3, (1, 2, 3, 4))
        for other in ((6, 2, 3, (1, 2, 3, 4)), (5, 3, 3, (1, 2, 3, 4)), (5, 2, 4, (1, 2, 3, 4)), (5, 2, 3, (2, 1, 3, 4)),
                      (5, 2, 3, (1, 2, 4, 3)), (5, 2, 3, (0, 2, 3, 4))):
            self.assertIs(is_load(other + (right[4],)), False)
            self.assertIs(is_load(load(*other)), True)

    def test_wrong_parts(self):
        for packet, part, left, words in (
                (-1, 0, 0, (1,)), (10 ** 9 + 1, 0, 0, (1,)), (0, -1, 0, (1,)), (0, 10, 0, (1,)), (0, 0, 10, (1,) * 4),
                (0, 5, 5, (1,) * 4), (0, 9, 1, (1,) * 4), (0, 0, -1, (1,) * 4), (0, 1, -1, (1,)), (0, 0, 1, (1,) * 3),
                (0, 0, 1, (1,)), (0, 0, 1, (1,) * 5), (0, 0, 0, (1,) * 5), (0, 0, 0, ()), (0, 0, 1, ()),
                (0, 0, 0, (256,)), (0, 0, 0, (-1,)), (0, 0, 0, (True,)), (True, 0, 0, (1,)), (False, 0, 0, (1,)),
                (0, True, 0, (1,)), (0, 0, True, (1,) * 4), (0, 0, False, (1,))):
            self.assertIs(is_load(load(packet, part, left, words)), False)
            check_raises(self, BadLoad, {}, Gatherer(1).comes, 0, load(packet, part, left, words))
        right = load(1, 1, 1, (1, 2, 3, 4))
        for thing in [list(right), right[:4], right + (0,), *with_each(right, odd_things()),
                      right[:3] + ([1, 2, 3, 4], right[4])]:
            self.assertIs(is_load(thing), False)


class Laying(unittest.TestCase):
    def test_cells_come_one_behind_the_other(self):
        one, two, three = (1, 2, (0, 1), words_of(9)), (3, 4, (1,), words_of(4, 50)), (5, 6, (0,), words_of(1, 90))
        rows = (((0, one), (1, two), (7, three)), ((2, three), (2, two)))
        first, second, third = ((1, 2, (0, 1)), (3, 4, (1,)), (5, 6, (0,)))
        arrivals, loads = laid(2, 2, rows)
        self.assertEqual(arrivals, ((first, None), (first, None), (first, third), (second, second), (None, None),
                                    (None, None), (None, None), (third, None)))
        a, b, c, d, e = [loads_of(number, packet[3]) for number, packet in enumerate((one, two, three, three, two))]
        self.assertEqual(loads, {0: a[0], 1: a[1], 2: a[2], 3: d[0], 4: b[0], 5: e[0], 6: c[0]})

    def test_empty_rows(self):
        for lines in range(1, 13):
            self.assertEqual(laid(lines, 1, ((),) * lines), ((), {}))
        self.assertEqual(laid(2, 1, ((), ((0, (0, 0, (1,), (7,))),))), (((None, (0, 0, (1,))),), {0: (0, 0, 0, (7,), 7)}))
        arrivals, loads = laid(1, 1, (((100, (0, 0, (0,), (7,))),),))
        self.assertEqual((arrivals, loads), (((None,),) * 100 + (((0, 0, (0,)),),), {0: (0, 0, 0, (7,), 7)}))

    def test_drawn_rows_as_told_anew(self):
        drawn = Drawn(91)
        for lines in (1, 2, 3, 5, 12):
            for most in (1, 2, 3):
                for _ in range(10):
                    rows = drawn_rows(drawn, lines, most, 6)
                    kept = copy.deepcopy(rows)
                    arrivals, loads = laid(lines, most, rows)
                    self.assertEqual((arrivals, loads), laid_anew(lines, rows))
                    self.assertEqual(rows, kept)
                    self.assertIs(is_arrivals(lines, most, arrivals), True)
                    came = [cell for each in cells(lines, most, arrivals) for cell in each]
                    self.assertEqual([cell.came_as for cell in came], list(loads))
                    self.assertEqual([is_load(told) for told in loads.values()], [True] * len(loads))

    def test_dicts_are_new(self):
        rows = (((0, P),),)
        laid(1, 1, rows)[1].clear()
        self.assertEqual(len(laid(1, 1, rows)[1]), 2)

    def test_the_last_cell_comes_ahead_of_beat_200(self):
        full = (0, 0, (0,), words_of(40))
        for row in (((0, full),) * 20, ((100, full),) * 10, ((50, full),) * 14 + ((60, full),)):
            arrivals, loads = laid(1, 1, (row,))
            self.assertEqual((len(arrivals), len(loads)), (200, 10 * len(row)))
            for longer in (row + ((100, (0, 0, (0,), (1,))),), row * 2 if row[0][0] == 100 else row + row[-1:]):
                check_raises(self, BadRows, {"line": 0}, laid, 1, 1, (longer,))
        one = (0, 0, (0,), (1,))
        self.assertEqual(len(laid(1, 1, (((0, one),) * 200,))[0]), 200)
        check_raises(self, BadRows, {"line": 0}, laid, 1, 1, (((0, one),) * 201,))
        check_raises(self, BadRows, {"line": 1}, laid, 2, 1, (((0, one),) * 200, ((1, one),) * 200))
        self.assertEqual(len(laid(1, 1, (((100, one),) * 100,))[0]), 200)
        check_raises(self, BadRows, {"line": 0}, laid, 1, 1, (((100, one),) * 101,))

    def test_bad_rows(self):
        one = (0, 0, (0,), (1,))
        for thing in [*odd_things(), ((),), ((),) * 3, [(), ()]]:
            if not (isinstance(thing, tuple) and len(thing) == 2):
                check_raises(self, BadRows, {"line": -1}, laid, 2, 1, thing)
        wrong = [[], [(0, one)], ((0, one), [0, one]), ((0, one, 0),), ((0,),), (one,), ((1, one), (0, one)), ((101, one),),
                 ((-1, one),), ((True, one),), ((0, one), (False, one)), ((0, list(one)),), ((0, one[:3]),),
                 ((0, (0, 0, (2,), (1,))),), ((0, (0, 0, (0, 1), (1,))),), ((0, (0, 0, (), (1,))),),
                 ((0, (100, 0, (0,), (1,))),), ((0, (0, 8, (0,), (1,))),), ((0, one), (0, one + (0,))), ((0, None),)]
        wrong += [((0, (0, 0, (0,), words)),) for words in WRONG_WORDS]
        wrong += [thing for thing in odd_things() if thing != ()] + [(thing,) for thing in odd_things()]
        wrong += [((thing, one),) for thing in odd_things()] + [((0, thing),) for thing in odd_things()]
        for row in wrong:
            check_raises(self, BadRows, {"line": 0}, laid, 2, 1, (row, ()))
            check_raises(self, BadRows, {"line": 1}, laid, 2, 1, (((0, one),), row))
            check_raises(self, BadRows, {"line": 0}, laid, 2, 1, (row, row))
        self.assertEqual(len(laid(2, 2, (((0, (0, 0, (0, 1), (1,))),), ()))[0]), 1)

    def test_errors_in_their_order(self):
        for call in (laid, lambda lines, most, rows: delivered(lines, most, None, rows)):
            for thing in not_integers_from(1, 12):
                check_raises(self, NoLines, {}, call, thing, None, None)
            for thing in not_integers_from(1, 3):
                check_raises(self, NoMost, {}, call, 2, thing, None)
            check_raises(self, BadRows, {"line": -1}, call, 2, 1, ((),))
            check_raises(self, BadRows, {"line": 1}, call, 2, 1, ((), None))


class Gatherers(unittest.TestCase):
    def test_a_packet_is_told_once_by_its_last_part(self):
        gatherer = Gatherer(1)
        self.assertIsNone(gatherer.comes(0, (0, 1, 0, (5,), 12)))
        self.assertEqual(gatherer.lacking(0), [(0, (0,))])
        self.assertEqual(gatherer.comes(0, (0, 0, 1, (9, 8, 7, 6), 81)), (9, 8, 7, 6, 5))
        self.assertEqual(gatherer.lacking(0), [])

    def test_in_whatever_order_parts_come(self):
        drawn = Drawn(92)
        for _ in range(60):
            packets = {drawn.below(1000): tuple([drawn.below(256) for _ in range(1 + drawn.below(40))])
                       for _ in range(5)}
            outputs = 1 + drawn.below(12)
            gatherer = Gatherer(outputs)
            coming = drawn.mixed([(output, told) for output in range(outputs) for number, words in packets.items()
                                  for told in loads_of(number, words)])
            there = {}
            for output, told in coming:
                there.setdefault((output, told[0]), set()).add(told[1])
                words = packets[told[0]]
                whole = len(there[output, told[0]]) == cells_in((0, 0, (0,), words))
                answer = gatherer.comes(output, told)
                self.assertEqual(answer, words if whole else None)
                if whole:
                    self.assertIs(answer.__class__, tuple)
                lacking = []
                for number in sorted(packets):
                    parts = there.get((output, number), set())
                    lot = tuple([part for part in range(-(-len(packets[number]) // 4)) if part not in parts])
                    if parts and lot:
                        lacking.append((number, lot))
                self.assertEqual(gatherer.lacking(output), lacking)
            self.assertEqual([gatherer.lacking(output) for output in range(outputs)], [[]] * outputs)

    def test_outputs_are_apart(self):
        gatherer = Gatherer(2)
        first, last = loads_of(4, words_of(8))
        self.assertIsNone(gatherer.comes(0, first))
        self.assertIsNone(gatherer.comes(1, last))
        self.assertEqual((gatherer.lacking(0), gatherer.lacking(1)), ([(4, (1,))], [(4, (0,))]))
        self.assertEqual(gatherer.comes(1, first), words_of(8))
        self.assertEqual((gatherer.lacking(0), gatherer.lacking(1)), ([(4, (1,))], []))

    def test_twice_and_mixed(self):
        gatherer = Gatherer(2)
        gatherer.comes(0, load(1, 0, 2, (1, 2, 3, 4)))
        for thing in (load(1, 0, 2, (1, 2, 3, 4)), load(1, 0, 2, (4, 3, 2, 1)), load(1, 0, 3, (1, 2, 3, 4)),
                      load(1, 0, 0, (1,))):
            check_raises(self, Twice, {}, gatherer.comes, 0, thing)
        for thing in (load(1, 1, 0, (1,)), load(1, 1, 2, (1, 2, 3, 4)), load(1, 2, 1, (1, 2, 3, 4)), load(1, 9, 0, (1,)),
                      load(1, 3, 0, (1,))):
            check_raises(self, Mixed, {}, gatherer.comes, 0, thing)
        self.assertEqual(gatherer.lacking(0), [(1, (1, 2))])
        # At the other output, and of other packets, nothing of this came.
        self.assertEqual(gatherer.comes(1, load(1, 0, 0, (1,))), (1,))
        self.assertIsNone(gatherer.comes(0, load(2, 0, 1, (1, 2, 3, 4))))
        self.assertEqual(gatherer.lacking(0), [(1, (1, 2)), (2, (1,))])
        self.assertIsNone(gatherer.comes(0, load(1, 1, 1, (5, 6, 7, 8))))
        self.assertEqual(gatherer.comes(0, load(1, 2, 0, (9,))), (1, 2, 3, 4, 5, 6, 7, 8, 9))

    def test_parts_of_a_packet_that_is_whole(self):
        gatherer = Gatherer(1)
        for told in loads_of(6, words_of(7)):
            gatherer.comes(0, told)
        for thing in (load(6, 0, 1, (1, 2, 3, 4)), load(6, 1, 0, (1,)), load(6, 1, 3, (1, 2, 3, 4)), load(6, 0, 0, (1,))):
            check_raises(self, Twice, {}, gatherer.comes, 0, thing)
        for thing in (load(6, 2, 0, (1,)), load(6, 2, 2, (1, 2, 3, 4))):
            check_raises(self, Mixed, {}, gatherer.comes, 0, thing)
        self.assertEqual(gatherer.lacking(0), [])

    def test_errors_in_their_order(self):
        for thing in not_integers_from(1, 12):
            check_raises(self, NoNumber, {}, Gatherer, thing)
        for outputs in (1, 12):
            gatherer = Gatherer(outputs)
            for thing in not_integers_from(0, outputs - 1):
                check_raises(self, NoOutput, {}, gatherer.comes, thing, None)
                check_raises(self, NoOutput, {}, gatherer.lacking, thing)
            gatherer.comes(0, load(1, 0, 1, (1, 2, 3, 4)))
            for thing in [*odd_things(), load(1, 0, 1, (1, 2, 3)), load(1, 0, 1, (1, 2, 3, 4))[:4] + (0,)]:
                check_raises(self, BadLoad, {}, gatherer.comes, 0, thing)
            self.assertEqual(gatherer.lacking(0), [(1, (1,))])

    def test_lists_are_new(self):
        gatherer = Gatherer(1)
        gatherer.comes(0, load(1, 0, 1, (1, 2, 3, 4)))
        gatherer.lacking(0).clear()
        self.assertEqual(gatherer.lacking(0), [(1, (1,))])

    def test_equal_to_itself_alone(self):
        gatherer = Gatherer(1)
        self.assertTrue(gatherer == gatherer)
        for thing in [*odd_things(), Gatherer(1)]:
            self.assertFalse(gatherer == thing)


class Delivered(unittest.TestCase):
    def test_a_small_run(self):
        rows = (((0, (0, 0, (0, 1), (1, 2, 3, 4, 5))),), ((0, (0, 0, (0,), (6,))),))
        # Cells 0, 1 and 2: the first part, the packet of line 1, the second part.
        self.assertEqual(delivered(2, 2, (Z, Z), rows), [(1, 0, 1, (6,)), (1, 1, 0, (1, 2, 3, 4, 5)),
                                                         (2, 0, 0, (1, 2, 3, 4, 5))])
        self.assertEqual(delivered(1, 1, (Z,), ((),)), [])

    def test_each_packet_comes_once_when_its_last_part_is_sent(self):
        drawn = Drawn(93)
        for lines in (1, 2, 3, 4, 6, 12):
            for most in (1, 2, 3):
                programs = tuple([Program(drawn_block(drawn, 1)) for _ in range(lines)])
                rows = drawn_rows(drawn, lines, most, 5)
                self.check(lines, most, programs, rows)
        full = (0, 0, (0, 1, 2), words_of(40))
        self.check(6, 3, (Program((("rank", ("-", ("num", 0), ("fact", "beat"))),)),) * 6, (((0, full),) * 20,) * 6)

    def check(self, lines, most, programs, rows):
        arrivals, loads = laid_anew(lines, rows)
        left, _ = plain_run(lines, programs, arrivals)
        last = {}
        for beat, sent in enumerate(left):
            for output, cell in enumerate(sent):
                if cell is not None:
                    last[output, loads[cell][0]] = beat
        packets = [packet for row in rows for _, packet in row]
        wanted = [(beat, output, number, packets[number][3]) for (output, number), beat in last.items()]
        self.assertEqual(delivered(lines, most, programs, rows), sorted(wanted))
        self.assertEqual(sorted(last), sorted([(output, number) for number, packet in enumerate(packets)
                                               for output in packet[2]]))

    def test_no_programs_behind_bad_rows(self):
        for thing in odd_things():
            check_raises(self, BadRows, {"line": 1}, delivered, 2, 1, thing, ((), None))
            if not isinstance(thing, tuple):
                check_raises(self, NoPrograms, {"output": -1}, delivered, 2, 1, thing, ((), ()))
            if not isinstance(thing, Program):
                check_raises(self, NoPrograms, {"output": 1}, delivered, 2, 1, (Z, thing), ((), ()))
        for many in (0, 1, 3):
            check_raises(self, NoPrograms, {"output": -1}, delivered, 2, 1, (Z,) * many, ((), ()))


if __name__ == "__main__":
    unittest.main()
