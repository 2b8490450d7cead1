"""What holds over the whole program: one run, led by all doors, tells the same (0.1, 3, 6.3, 7.1, 12, 13, 15)."""

import unittest

from exactbeats.accounts import account_of, is_right_account
from exactbeats.desk import tale
from exactbeats.fewer import against, is_against
from exactbeats.house import House
from exactbeats.ideal import ideal_beats, ideal_run
from exactbeats.packets import delivered, laid
from exactbeats.ranks import Program
from exactbeats.ranktexts import read_settings, settings_text
from exactbeats.strangers import asking, greedy, led
from exactbeats.switch import Switch
from exactbeats.texts import arrivals_text, read_arrivals
from tests.drawn import Drawn, drawn_arrivals, drawn_arrivals_of_beat
from tests.test_desk import beat_line, sent, settings_line, told_of
from tests.test_house import COUNT, HELD, PlainHouse
from tests.test_packets import drawn_rows
from tests.test_ranks import drawn_block

BACKWARDS = Program((("rank", ("-", ("num", 0), ("fact", "beat"))),))


def ranks_of(lines, programs, arrivals):
    """The ranks that programs give to all copies."""
    house = PlainHouse(lines)
    house.ranker = house.ranker.turned(programs)
    for coming in arrivals:
        house.beat(coming)
    return house.ranks


class Doors(unittest.TestCase):
    def same_by_all(self, n, r, most, planes, programs, arrivals):
        lines = n * r
        ranks = ranks_of(lines, programs, arrivals)
        run = ideal_run(lines, most, arrivals, ranks)
        account = account_of(lines, most, programs, arrivals)
        self.assertEqual(account["sent"], run)
        self.assertIs(is_right_account(lines, most, programs, arrivals, account), True)
        self.assertEqual(led(lines, most, programs, arrivals, most + 1, asking), ("kept", account["carried"], run))
        self.by_the_switch(lines, most, arrivals, ranks, account)
        self.by_the_house(n, r, most, planes, programs, arrivals, account)
        self.by_the_desk(n, r, most, planes, programs, arrivals, run)
        self.by_lists_of_beats(lines, most, arrivals, ranks, run)

    def by_the_switch(self, lines, most, arrivals, ranks, account):
        switch, number = Switch(lines, most), 0
        for beat, left in enumerate(account["sent"]):
            coming = []
            for item in arrivals[beat] if beat < len(arrivals) else (None,) * lines:
                coming.append(None if item is None else tuple([(output, ranks[number, output]) for output in item[2]]))
                number += item is not None
            # By hand, and by beat, which is one step for all of it.
            other = switch.copy()
            for line, copies in enumerate(coming):
                if copies is not None:
                    other.come(line, copies)
            for phase in account["carried"][beat]:
                standing = other.standing()
                told = tuple([(line, output, standing[line][place][1][1]) for line, output, place in other.phase()])
                self.assertEqual(told, phase)
            # No slack is below 1 behind the phases, none below 0 behind the beat.
            self.assertTrue(all([slack >= 1 for slacks in other.slacks() for slack in slacks]))
            self.assertEqual(switch.beat(tuple(coming)), other.send())
            self.assertTrue(all([slack >= 0 for slacks in switch.slacks() for slack in slacks]))
            self.assertEqual((switch.standing(), switch.stores(), switch.ideal_rows()),
                             (other.standing(), other.stores(), other.ideal_rows()))
        self.assertEqual(switch.ideal_rows(), ((),) * lines)

    def by_the_house(self, n, r, most, planes, programs, arrivals, account):
        house = House(n, r, most, planes)
        house.turn(programs)
        for beat, left in enumerate(account["sent"]):
            if planes > n and beat % 3 == 0:
                house.lose(beat % planes)
            self.assertEqual(house.beat(arrivals[beat] if beat < len(arrivals) else (None,) * (n * r)), left)
            carried = [tuple([quad[:3] for quad in quads]) for quads in house.ways()]
            self.assertEqual(carried, account["carried"][beat])
            if planes > n and beat % 3 == 0:
                house.back(beat % planes)
        self.assertEqual([left for _, left in house.book()], account["sent"])
        self.assertEqual(house.counts()[2], 0)

    def by_the_desk(self, n, r, most, planes, programs, arrivals, run):
        lines = [settings_line(programs)] + [beat_line(coming) for coming in arrivals]
        lines += ["run 1"] * (len(run) - len(arrivals)) + ["count"]
        cells = len([item for coming in arrivals for item in coming if item is not None])
        copies = len([output for coming in arrivals for item in coming if item is not None for output in item[2]])
        self.assertEqual(tale(n, r, most, planes, lines), ["ok"] + [sent(left) for left in run] + [f"{cells} {copies} 0"])

    def by_lists_of_beats(self, lines, most, arrivals, ranks, run):
        beats = ideal_beats(lines, most, arrivals, ranks)
        self.assertEqual(sorted(beats), sorted(ranks))
        self.assertEqual(beats, {(cell, output): beat for beat, left in enumerate(run) for output, cell in enumerate(left)
                                 if cell is not None})

    def test_drawn_runs(self):
        drawn = Drawn(151)
        for n, r in [(1, 1), (2, 1), (1, 2), (2, 2), (3, 2), (2, 5), (4, 3), (12, 1)]:
            for most in (1, 2, 3):
                programs = tuple([Program(drawn_block(drawn, 1)) for _ in range(n * r)])
                arrivals = drawn_arrivals(drawn, n * r, most, 10, 1 + drawn.below(4), 4)
                self.same_by_all(n, r, most, n + drawn.below(13 - n), programs, arrivals)

    def test_great_runs(self):
        for most, outs, program in ((1, (0,), COUNT), (2, (0, 11), BACKWARDS), (3, (4, 5, 6), HELD)):
            arrivals = tuple([tuple([((beat + line) % 100, (beat * line) % 8, outs) for line in range(12)])
                              for beat in range(40)])
            self.same_by_all(3, 4, most, 5, (program,) * 12, arrivals)

    def test_texts_lead_the_same(self):
        drawn = Drawn(152)
        for _ in range(12):
            lines, most = 1 + drawn.below(6), 1 + drawn.below(3)
            programs = tuple([Program(drawn_block(drawn, 1)) for _ in range(lines)])
            arrivals = drawn_arrivals(drawn, lines, most, 8, 3, 4)
            self.assertEqual(account_of(lines, most, read_settings(settings_text(programs)),
                                        read_arrivals(lines, most, arrivals_text(arrivals))),
                             account_of(lines, most, programs, arrivals))

    def test_what_was_returned_may_be_passed_on(self):
        drawn = Drawn(153)
        rows = drawn_rows(drawn, 4, 3, 6)
        arrivals, loads = laid(4, 3, rows)
        programs = (COUNT, HELD, BACKWARDS, Program(()))
        kind, carried, left = led(4, 3, programs, arrivals, 4, asking)
        self.assertEqual(kind, "kept")
        self.assertIs(is_right_account(4, 3, programs, arrivals, {"carried": carried, "sent": left}), True)
        last = {(output, loads[cell][0]): beat for beat, row in enumerate(left) for output, cell in enumerate(row)
                if cell is not None}
        self.assertEqual([(output, packet, beat) for beat, output, packet, _ in delivered(4, 3, programs, rows)],
                         [(output, packet, beat) for (output, packet), beat in sorted(
                             last.items(), key=lambda item: (item[1], item[0][0]))])


class GreatTurns(unittest.TestCase):
    """A house, and a desk, whose programs are turned and whose planes are lost amid a run as long as can be."""

    def test_turned_amid(self):
        drawn = Drawn(154)
        house, plain, lines = House(4, 3, 3, 6), PlainHouse(12), []
        told = []
        for beat in range(120):
            if beat % 10 == 0:
                programs = tuple([Program(drawn_block(drawn, 1)) for _ in range(12)])
                house.turn(programs)
                plain.ranker = plain.ranker.turned(programs)
                lines.append(settings_line(programs))
                told.append("ok")
            if beat % 7 == 3:
                house.lose(beat % 6)
                lines.append(f"down {beat % 6}")
                told.append("ok")
            if beat % 7 == 5:
                house.back((beat - 2) % 6)
                house.broken(beat % 4)
                lines += [f"up {(beat - 2) % 6}", f"break {beat % 4}"]
                told += ["ok", "ok"]
            arrivals = drawn_arrivals_of_beat(drawn, 12, 3, 1 + beat % 3, 3)
            self.assertEqual(house.beat(arrivals), plain.beat(arrivals))
            lines.append(beat_line(arrivals))
            told.append(sent(plain.book[-1][1]))
        lines += ["planes", "way", "count"] + [f"{word} {end}" for word in ("row", "store", "held", "slack")
                                               for end in range(12)]
        self.assertEqual(tale(4, 3, 3, 6, lines), told + told_of(house))
        self.assertGreater(house.counts()[2], 100)


class OnePhaseLess(unittest.TestCase):
    """The great fact's other side: with as many phases as copies no scheduler keeps the beats."""

    def test_strangers_of_the_package_are_late(self):
        for most in (1, 2, 3):
            for stranger in (asking, greedy):
                def scheduler(views):
                    lots = tuple([tuple([(output, (0, cell)) for cell, output in waiting]) for waiting in views[-1]])
                    return tuple([(cell, output) for _, output, cell in stranger((0, 0, lots))])
                told = against(most, scheduler)
                self.assertIs(is_against(most, told), True)
                arrivals, late, beat = told
                programs = (Program(()),) * (2 * most)
                self.assertEqual(led(2 * most, most, programs, arrivals, most, stranger), ("late", beat, late[1]))
                self.assertEqual(led(2 * most, most, programs, arrivals, most + 1, asking)[0], "kept")


if __name__ == "__main__":
    unittest.main()
