"""Switches, slacks, lifts, and what 0.1 says over both switches: 6.1 to 6.3."""

import itertools
import unittest

from exactbeats.errors import CameAlready, Late, NoCopies, NoLine, NoLines, NoMatching, NoMost, NoPlace
from exactbeats.ideal import Ideal, ideal_run
from exactbeats.rows import is_standing
from exactbeats.stable import all_stable, is_stable, matched, stable_for_outputs, stable_matching
from exactbeats.switch import Switch, lifts
from tests.drawn import Drawn, drawn_coming, drawn_copies
from tests.odd import check_raises, not_integers_from, odd_things, with_each

HIGH = 10 ** 18


def state(switch):
    """All that a switch tells of itself."""
    return (switch.standing(), switch.stores(), switch.ideal_rows(), switch.slacks(), switch.beats(), switch.phases())


def slacks_of(switch):
    """6.2 told anew."""
    return tuple([tuple([len([other for other in switch.stores()[output] if other < key]) - thread
                         for thread, (output, key) in enumerate(row)]) for row in switch.standing()])


def wrong_copies(lines, most):
    """Things that may not come to a line."""
    right = (0, 0)
    wrong = [(), [right], (right, right), (right, (0, 1)), ((1, 0), right), ((0,),), ((0, 0, 0),), ([0, 0],), right,
             ((lines, 0),), ((-1, 0),), ((False, 0),), ((0, True),), ((0, HIGH + 1),), ((0, -HIGH - 1),),
             ((0, (0, 0)),), ((0, None),), ((None, 0),), tuple([(output, 0) for output in range(most + 1)])]
    wrong += [(thing,) for thing in with_each(right, odd_things())]
    return wrong + odd_things()


class Coming(unittest.TestCase):
    def test_copies_go_ahead_of_the_row_and_into_the_ideal_outputs(self):
        switch = Switch(3, 2)
        self.assertEqual(switch.come(1, ((0, 5), (2, -5))), 0)
        self.assertEqual(switch.come(0, ((2, HIGH),)), 1)
        self.assertEqual(switch.standing(), (((2, (HIGH, 1)),), ((0, (5, 0)), (2, (-5, 0))), ()))
        self.assertEqual(switch.ideal_rows(), (((5, 0),), (), ((-5, 0), (HIGH, 1))))
        self.assertEqual(switch.stores(), ((), (), ()))
        for _ in range(3):
            switch.phase()
        switch.send()
        self.assertEqual(switch.come(1, ((1, 0), (2, 0))), 2)
        self.assertEqual(switch.standing()[1], ((1, (0, 2)), (2, (0, 2))))

    def test_new_copies_stand_ahead_of_elder_ones(self):
        switch = Switch(2, 2)
        switch.come(0, ((0, 0), (1, 0)))
        switch.come(1, ((0, -1), (1, -1)))
        switch.phase()
        switch.phase()
        switch.send()
        switch.come(0, ((0, 3),))
        switch.send()
        switch.come(0, ((0, 1), (1, -HIGH)))
        self.assertEqual(switch.standing(), (((0, (1, 3)), (1, (-HIGH, 3)), (0, (3, 2))), ()))

    def test_edges(self):
        for lines, most in ((1, 1), (1, 3), (2, 3), (3, 3), (12, 1), (12, 3)):
            switch = Switch(lines, most)
            copies = tuple([(lines - 1 - at, -HIGH) for at in reversed(range(min(lines, most)))])
            self.assertEqual(switch.come(lines - 1, copies), 0)
            self.assertEqual(len(switch.standing()), lines)
            self.assertIs(is_standing(switch.standing()), True)

    def test_wrong_lines_then_wrong_most(self):
        for thing in not_integers_from(1, 12):
            check_raises(self, NoLines, {}, Switch, thing, None)
        for thing in not_integers_from(1, 3):
            check_raises(self, NoMost, {}, Switch, 1, thing)

    def test_errors_in_their_order(self):
        switch = Switch(4, 2)
        switch.come(2, ((0, 0),))
        before = state(switch)
        for thing in not_integers_from(0, 3):
            check_raises(self, NoLine, {}, switch.come, thing, None)
        for thing in wrong_copies(4, 2):
            check_raises(self, NoCopies, {}, switch.come, 2, thing)
            check_raises(self, NoCopies, {}, switch.come, 0, thing)
        check_raises(self, CameAlready, {}, switch.come, 2, ((0, 0),))
        check_raises(self, CameAlready, {}, switch.come, 2, ((1, 0), (3, 0)))
        self.assertEqual(state(switch), before)
        self.assertEqual(switch.come(3, ((0, 0),)), 1)

    def test_a_cell_for_each_line_in_a_beat(self):
        switch = Switch(2, 1)
        self.assertEqual([switch.come(1, ((0, 0),)), switch.come(0, ((0, 0),))], [0, 1])
        switch.phase()
        for line in (0, 1):
            check_raises(self, CameAlready, {}, switch.come, line, ((0, 0),))
        switch.send()
        self.assertEqual([switch.come(line, ((0, 0),)) for line in (0, 1)], [2, 3])

    def test_also_behind_phases(self):
        switch = Switch(2, 1)
        switch.phase()
        self.assertEqual(switch.come(0, ((1, 0),)), 0)
        self.assertEqual(switch.phase(), ((0, 1, 0),))
        self.assertEqual(switch.come(1, ((1, -1),)), 1)
        self.assertEqual(switch.phases(), 2)
        check_raises(self, Late, {"output": 1, "cell": 1}, switch.send)
        switch.phase()
        self.assertEqual(switch.send(), (None, (-1, 1)))


class Phases(unittest.TestCase):
    def test_the_stable_matching_goes_over(self):
        switch = Switch(2, 2)
        switch.come(0, ((0, 1), (1, 0)))
        switch.come(1, ((0, 0), (1, 1)))
        standing = switch.standing()
        matching = switch.phase()
        self.assertEqual(matching, stable_matching(standing))
        self.assertEqual(matching, ((0, 1, 1), (1, 0, 0)))
        self.assertEqual((switch.stores(), switch.phases()), ((((0, 1),), ((0, 0),)), 1))
        self.assertEqual(switch.standing(), (((0, (1, 0)),), ((1, (1, 1)),)))
        self.assertEqual([switch.phase(), switch.phase(), switch.phase()], [((0, 0, 0), (1, 1, 0)), (), ()])
        self.assertEqual((switch.stores(), switch.phases()), ((((0, 1), (1, 0)), ((0, 0), (1, 1))), 4))

    def test_phase_by_any_matching(self):
        switch = Switch(2, 2)
        switch.come(0, ((0, 1), (1, 0)))
        switch.come(1, ((0, 0), (1, 1)))
        self.assertIsNone(switch.phase_by(((0, 0, 0), (1, 1, 1))))
        self.assertEqual(switch.stores(), (((1, 0),), ((1, 1),)))
        self.assertIsNone(switch.phase_by(()))
        self.assertIsNone(switch.phase_by(((0, 1, 0),)))
        self.assertEqual((switch.stores(), switch.phases()), ((((1, 0),), ((0, 0), (1, 1))), 3))
        self.assertEqual(switch.ideal_rows(), (((0, 1), (1, 0)), ((0, 0), (1, 1))))

    def test_no_matching(self):
        switch = Switch(2, 1)
        switch.come(0, ((1, 0),))
        before = state(switch)
        wrong = [thing for thing in odd_things() if thing != ()]
        for thing in [*wrong, [(0, 1, 0)], ((0, 0, 0),), ((1, 1, 0),), ((0, 1, 1),), ((0, 1, 0),) * 2, ((0, True, 0),)]:
            check_raises(self, NoMatching, {}, switch.phase_by, thing)
            check_raises(self, NoMatching, {}, lifts, switch, thing)
        self.assertEqual(state(switch), before)
        switch.phase_by(((0, 1, 0),))
        check_raises(self, NoMatching, {}, switch.phase_by, ((0, 1, 0),))


class Sending(unittest.TestCase):
    def test_the_least_key_of_each_ideal_output_leaves(self):
        switch = Switch(3, 1)
        for line, rank in enumerate((4, 2, 3)):
            switch.come(line, ((1, rank),))
        for _ in range(3):
            switch.phase()
        self.assertEqual(switch.send(), (None, (2, 1), None))
        self.assertEqual((switch.beats(), switch.phases()), (1, 0))
        self.assertEqual((switch.stores(), switch.ideal_rows()), (((), ((3, 2), (4, 0)), ()),) * 2)
        self.assertEqual([switch.send(), switch.send(), switch.send()],
                         [(None, (3, 2), None), (None, (4, 0), None), (None, None, None)])
        self.assertEqual(switch.beats(), 4)

    def test_late(self):
        switch = Switch(3, 2)
        switch.come(0, ((1, 7), (2, 0)))
        switch.come(1, ((1, 5),))
        before = state(switch)
        check_raises(self, Late, {"output": 1, "cell": 1}, switch.send)
        self.assertEqual(state(switch), before)
        switch.phase_by(((0, 1, 0),))
        # Another copy lies there, not the one that is due.
        check_raises(self, Late, {"output": 1, "cell": 1}, switch.send)
        switch.phase_by(((1, 1, 0),))
        before = state(switch)
        check_raises(self, Late, {"output": 2, "cell": 0}, switch.send)
        self.assertEqual(state(switch), before)
        check_raises(self, CameAlready, {}, switch.come, 0, ((0, 0),))
        switch.come(2, ((0, -1),))
        check_raises(self, Late, {"output": 0, "cell": 2}, switch.send)
        self.assertEqual(switch.phases(), 2)
        self.assertEqual(switch.phase(), ((0, 2, 0), (2, 0, 0)))
        self.assertEqual(switch.send(), ((-1, 2), (5, 1), (0, 0)))
        self.assertEqual((switch.stores(), switch.beats(), switch.phases()), (((), ((7, 0),), ()), 1, 0))

    def test_nothing_to_send(self):
        switch = Switch(12, 3)
        self.assertEqual(switch.send(), (None,) * 12)
        self.assertEqual(switch.beats(), 1)


class Beats(unittest.TestCase):
    def test_all_come_then_phases_then_send(self):
        drawn = Drawn(1)
        for lines, most in ((1, 1), (1, 3), (2, 1), (3, 2), (5, 3), (12, 2)):
            switch, other, numbers = Switch(lines, most), Switch(lines, most), itertools.count()
            for beat in range(12):
                coming = drawn_coming(drawn, lines, most)
                told = switch.beat(coming)
                for line, copies in enumerate(coming):
                    if copies is not None:
                        self.assertEqual(other.come(line, copies), next(numbers))
                for _ in range(most + 1):
                    self.assertEqual(stable_matching(other.standing()), other.phase())
                self.assertEqual(told, other.send())
                self.assertEqual(state(switch), state(other))
                self.assertEqual((switch.beats(), switch.phases()), (beat + 1, 0))

    def test_no_copies(self):
        switch = Switch(2, 1)
        right = ((0, 0),)
        for thing in [*odd_things(), (None,), (None,) * 3, [None, None], [right, None], ()]:
            if thing != (None, None):
                check_raises(self, NoCopies, {}, switch.beat, thing)
        for thing in wrong_copies(2, 1):
            if thing is not None:
                check_raises(self, NoCopies, {}, switch.beat, (right, thing))
                check_raises(self, NoCopies, {}, switch.beat, (thing, None))
        self.assertEqual(state(switch), state(Switch(2, 1)))
        self.assertEqual(switch.come(0, right), 0)
        check_raises(self, NoCopies, {}, switch.beat, (right, ()))

    def test_came_already(self):
        switch = Switch(2, 1)
        switch.come(0, ((1, 0),))
        for coming in ((None, None), (None, ((0, 0),)), (((0, 0),), None)):
            check_raises(self, CameAlready, {}, switch.beat, coming)
        self.assertEqual(switch.phases(), 0)
        switch.phase()
        switch.send()
        switch.phase()
        before = state(switch)
        check_raises(self, CameAlready, {}, switch.beat, (None, None))
        self.assertEqual(state(switch), before)
        switch.send()
        self.assertEqual(switch.beat((None, None)), (None, None))

    def test_late_beats_do_nothing(self):
        switch = behind_hand()
        before = state(switch)
        for coming in ((None,) * 4, (((3, 0),), None, None, None), (((0, 1),), ((1, 1),), None, None)):
            check_raises(self, Late, {"output": 0, "cell": 0}, switch.beat, coming)
            self.assertEqual(state(switch), before)
        # No cell came, no number is used up, and phases may be made.
        self.assertEqual(switch.come(0, ((3, 0),)), 9)
        for _ in range(3):
            switch.phase()
        check_raises(self, Late, {"output": 0, "cell": 0}, switch.send)
        self.assertEqual(switch.phase(), ((0, 0, 0),))
        self.assertEqual(switch.send(), ((0, 0), (0, 2), (0, 5), (0, 9)))


def behind_hand():
    """A switch in which three copies of line 0 are due at once, others having gone ahead of them: cells 0, 2, 5."""
    switch = Switch(4, 1)
    for beat in range(3):
        # Line 0 gets a copy for an output, another line each time one that leaves ahead of those.
        switch.come(0, ((beat, 0),))
        for output in range(beat + 1):
            switch.come(output + 1, ((output, -1),))
        switch.phase_by(tuple([(output + 1, output, 0) for output in range(beat + 1)]))
        switch.send()
    return switch


class Told(unittest.TestCase):
    def test_tuples_stay(self):
        switch = Switch(2, 2)
        switch.come(0, ((0, 0), (1, 0)))
        before = state(switch)
        kept = repr(before)
        switch.phase()
        switch.phase()
        switch.send()
        self.assertEqual(repr(before), kept)

    def test_copies_go_on_apart(self):
        switch = Switch(3, 2)
        switch.come(0, ((0, 5), (1, 5)))
        switch.phase()
        other = switch.copy()
        self.assertIs(other.__class__, Switch)
        self.assertFalse(switch == other)
        self.assertEqual(state(other), state(switch))
        before = state(switch)
        check_raises(self, CameAlready, {}, other.come, 0, ((2, 0),))
        self.assertEqual(other.come(1, ((2, 0),)), 1)
        other.phase()
        other.send()
        other.beat((((2, 0),), None, None))
        self.assertEqual(state(switch), before)
        self.assertEqual(switch.come(2, ((0, 0),)), 1)
        later = state(other)
        for _ in range(3):
            switch.phase()
        switch.send()
        self.assertEqual(state(other), later)
        check_raises(self, NoCopies, {}, other.come, 0, ((0, 0), (1, 0), (2, 0)))

    def test_drawn_copies_go_on_alike(self):
        drawn = Drawn(2)
        switch = Switch(4, 3)
        for _ in range(10):
            switch.beat(drawn_coming(drawn, 4, 3))
            other, coming = switch.copy(), drawn_coming(drawn, 4, 3)
            self.assertEqual(other.beat(coming), switch.beat(coming))
            self.assertEqual(state(other), state(switch))

    def test_equal_to_itself_alone(self):
        switch = Switch(1, 1)
        self.assertTrue(switch == switch)
        for thing in [*odd_things(), Switch(1, 1)]:
            self.assertFalse(switch == thing)


class Slacks(unittest.TestCase):
    def test_cushion_less_thread(self):
        switch = Switch(3, 3)
        switch.come(0, ((0, 1), (1, 1), (2, 1)))
        switch.come(1, ((0, 0), (1, 2), (2, 0)))
        self.assertEqual(switch.slacks(), ((0, -1, -2), (0, -1, -2), ()))
        switch.phase_by(((1, 2, 2),))
        self.assertEqual(switch.slacks(), ((0, -1, -1), (0, -1), ()))
        switch.phase_by(((0, 1, 1), (1, 0, 0)))
        self.assertEqual(switch.standing(), (((0, (1, 0)), (2, (1, 0))), ((1, (2, 1)),), ()))
        self.assertEqual(switch.slacks(), ((1, 0), (1,), ()))
        for line, row in enumerate(switch.slacks()):
            self.assertEqual([switch.slack(line, place) for place in range(len(row))], list(row))

    def test_equal_ranks(self):
        switch = Switch(2, 1)
        switch.come(0, ((0, 4),))
        switch.come(1, ((0, 4),))
        switch.phase_by(((1, 0, 0),))
        self.assertEqual(switch.slack(0, 0), 0)
        other = Switch(2, 1)
        other.come(1, ((0, 4),))
        other.come(0, ((0, 4),))
        other.phase_by(((1, 0, 0),))
        self.assertEqual(other.slack(0, 0), 1)

    def test_errors_in_their_order(self):
        switch = Switch(3, 2)
        switch.come(1, ((0, 0), (1, 0)))
        for thing in not_integers_from(0, 2):
            check_raises(self, NoLine, {}, switch.slack, thing, None)
        for thing in not_integers_from(0, 1):
            check_raises(self, NoPlace, {}, switch.slack, 1, thing)
        check_raises(self, NoPlace, {}, switch.slack, 0, 0)

    def test_lifts(self):
        switch = Switch(3, 3)
        switch.come(0, ((0, 1), (1, 1), (2, 1)))
        switch.come(1, ((0, 0), (1, 2), (2, 0)))
        self.assertEqual(lifts(switch, ()), ((0, 0, 0), (0, 0, 0), ()))
        self.assertEqual(lifts(switch, ((0, 1, 1), (1, 0, 0))), ((1, None, 1), (None, 2, 1), ()))
        self.assertEqual(lifts(switch, ((0, 0, 0),)), ((None, 1, 1), (0, 0, 0), ()))
        self.assertEqual(lifts(switch, ((1, 2, 2),)), ((0, 0, 1), (0, 0, None), ()))
        self.assertEqual(lifts(Switch(2, 1), ()), ((), ()))

    def test_lifts_change_nothing(self):
        for switch, matching in itertools.islice(some_phases(), 20):
            before = repr(state(switch))
            self.assertEqual(lifts(switch, matching), lifts(switch, matching))
            self.assertEqual(repr(state(switch)), before)

    def test_lifts_are_what_a_phase_does(self):
        for switch, matching in some_phases():
            self.assertEqual(switch.slacks(), slacks_of(switch))
            before = {copy: slack for row, slacks in zip(switch.standing(), switch.slacks())
                      for copy, slack in zip(row, slacks)}
            other = switch.copy()
            other.phase_by(matching)
            after = {copy: slack for row, slacks in zip(other.standing(), slacks_of(other))
                     for copy, slack in zip(row, slacks)}
            told = tuple([tuple([after[copy] - before[copy] if copy in after else None for copy in row])
                          for row in switch.standing()])
            self.assertEqual(lifts(switch, matching), told)
            self.assertEqual(other.slacks(), slacks_of(other))

    def test_step_of_a_phase(self):
        stable = 0
        for switch, matching in some_phases():
            lifted = [lift for row in lifts(switch, matching) for lift in row if lift is not None]
            self.assertEqual(is_stable(switch.standing(), matching), 0 not in lifted)
            self.assertLessEqual(set(lifted), {0, 1, 2})
            stable += 0 not in lifted
        self.assertGreater(stable, 30)


def drawn_matching(drawn, standing):
    """Some matching, stable or not."""
    going, lines, outputs = [], set(), set()
    for line, place in drawn.mixed([(line, place) for line, row in enumerate(standing) for place in range(len(row))]):
        output = standing[line][place][0]
        if line not in lines and output not in outputs and drawn.flag(3, 4):
            going.append((line, output, place))
            lines.add(line)
            outputs.add(output)
    return tuple(sorted(going))


def some_phases():
    """Switches with copies in rows and stores, each with a matching of its standing."""
    drawn = Drawn(3)
    for lines, most in [(1, 1), (2, 2), (3, 3), (4, 2), (6, 3), (12, 3)] * 3:
        switch = Switch(lines, most)
        for _ in range(6):
            for line in range(lines):
                if drawn.flag(2, 3):
                    switch.come(line, drawn_copies(drawn, lines, most))
            for _ in range(3):
                standing = switch.standing()
                yield switch, stable_matching(standing)
                yield switch, stable_for_outputs(standing)
                yield switch, drawn_matching(drawn, standing)
                switch.phase_by(drawn_matching(drawn, switch.standing()))
            while any(switch.standing()):
                switch.phase()
                if drawn.flag(1, 5):
                    break
            try:
                switch.send()
            except Late:
                while any(switch.standing()):
                    switch.phase()
                switch.send()


class BothSwitches(unittest.TestCase):
    """6.3, and 0.1: with most + 1 stable matchings a beat each copy leaves just when the ideal switch lets it go."""

    def led(self, drawn, lines, most, beats, choose):
        """Leads a switch, and checks the slacks of 6.3; returns what the ideal run and the switch let go."""
        switch, arrivals, ranks, sent = Switch(lines, most), [], {}, []
        for beat in range(beats):
            row, came = [], []
            for line in range(lines):
                copies = drawn_copies(drawn, lines, most) if drawn.flag(2, 3) and beat < beats // 2 + 2 else None
                row.append(copies and (0, 0, tuple([output for output, _ in copies])))
                if copies:
                    number = switch.come(line, copies)
                    came.append(number)
                    ranks.update({(number, output): rank for output, rank in copies})
            arrivals.append(tuple(row))
            self.check_new(switch, came, most)
            for _ in range(most + 1):
                matching = choose(drawn, switch.standing())
                self.assertIs(is_stable(switch.standing(), matching), True)
                self.assertNotIn(0, [lift for told in lifts(switch, matching) for lift in told])
                switch.phase_by(matching)
            for row_of_line, slacks in zip(switch.standing(), switch.slacks()):
                for (_, (_, number)), slack in zip(row_of_line, slacks):
                    self.assertGreaterEqual(slack, 2 if number in came else 1)
            sent.append(tuple([key and key[1] for key in switch.send()]))
            self.assertTrue(all([slack >= 0 for slacks in switch.slacks() for slack in slacks]))
        run = ideal_run(lines, most, tuple(arrivals), ranks)
        return run, sent

    def check_new(self, switch, came, most):
        for row, slacks in zip(switch.standing(), switch.slacks()):
            for (_, (_, number)), slack in zip(row, slacks):
                self.assertGreaterEqual(slack, 1 - most if number in came else -most)

    def check_led(self, start, choose, sizes):
        drawn = Drawn(start)
        for lines, most in sizes:
            run, sent = self.led(drawn, lines, most, 14, choose)
            # Behind the last of its beats the ideal run holds nothing; this one may go on, or stop ahead of it.
            both = min(len(run), len(sent))
            self.assertEqual(run[:both], sent[:both])
            self.assertEqual(set(sent[both:]) - {(None,) * lines}, set())

    def test_by_asks_of_lines(self):
        self.check_led(11, lambda drawn, standing: stable_matching(standing),
                       [(1, 1), (1, 3), (2, 1), (2, 2), (3, 3), (4, 1), (5, 2), (7, 3), (12, 3), (12, 1)] * 2)

    def test_by_asks_of_outputs(self):
        self.check_led(12, lambda drawn, standing: stable_for_outputs(standing),
                       [(1, 1), (2, 2), (3, 3), (4, 2), (6, 3), (12, 2)] * 2)

    def test_by_any_stable_matching(self):
        def some_stable(drawn, standing):
            choices = 1
            for row in standing:
                choices *= len(row) + 1
            return drawn.among(all_stable(standing)) if choices <= 3000 else stable_for_outputs(standing)
        self.check_led(13, some_stable, [(1, 2), (2, 1), (2, 2), (3, 2), (3, 3), (4, 1)] * 2)

    def test_beats_of_a_switch_send_what_the_ideal_one_lets_go(self):
        drawn = Drawn(14)
        for lines, most in [(1, 1), (2, 2), (3, 1), (4, 3), (8, 2), (12, 3)] * 2:
            switch, ideal, number = Switch(lines, most), Ideal(lines), 0
            for _ in range(15):
                coming = drawn_coming(drawn, lines, most, 3, 4)
                for copies in coming:
                    for output, rank in copies or ():
                        ideal.push(output, (rank, number))
                    number += copies is not None
                left = tuple([ideal.let_go(output) if ideal.held(output) else None for output in range(lines)])
                self.assertEqual(switch.beat(coming), left)
                self.assertEqual(switch.ideal_rows(), tuple([ideal.held(output) for output in range(lines)]))
                self.check_whole(switch)

    def check_whole(self, switch):
        """That what waits and what lies in the stores is together just what the ideal outputs hold."""
        waiting = [copy for row in switch.standing() for copy in row]
        stored = [(output, key) for output, keys in enumerate(switch.stores()) for key in keys]
        held = [(output, key) for output, keys in enumerate(switch.ideal_rows()) for key in keys]
        self.assertEqual(sorted(waiting + stored), held)

    def test_most_matchings_are_too_few(self):
        # 7.1's arrivals: whatever goes over in beat 0, what the victim gets then comes too late.
        for most in (1, 2, 3):
            switch = Switch(2 * most, most)
            for line in range(most + 1):
                switch.come(line, tuple([(output, 0) for output in range(most)]))
            late = None
            for beat in range(most + 1):
                if beat > 0:
                    switch.come(victim, tuple([(output, 0) for output in range(most, 2 * most)]))
                for _ in range(most):
                    switch.phase()
                if beat == 0:
                    _, victim = min([(number, line) for line, row in enumerate(switch.standing())
                                     for _, (_, number) in row])
                try:
                    switch.send()
                except Late as error:
                    late = (error.output, error.cell)
                    break
            self.assertIsNotNone(late)

    def test_phases_are_matchings_of_what_waits(self):
        for switch, matching in itertools.islice(some_phases(), 40):
            before = switch.standing()
            other = switch.copy()
            other.phase_by(matching)
            left, gone = matched(before, matching)
            self.assertEqual(other.standing(), left)
            stored = sorted([(output, key) for output, keys in enumerate(other.stores()) for key in keys])
            elder = [(output, key) for output, keys in enumerate(switch.stores()) for key in keys]
            self.assertEqual(stored, sorted([*elder, *gone]))


if __name__ == "__main__":
    unittest.main()
