"""One phase less: 7.1 and 7.2."""

import itertools
import unittest

from exactbeats.errors import BadScheduler, NoKey, NoMost
from exactbeats.fewer import against, first_beat, is_against
from exactbeats.ideal import ideal_beats
from tests.odd import DEEPEST, check_raises, nested, not_integers_from, odd_things

MOSTS = (1, 2, 3)


def picked(copies, line_of):
    """Of copies, in their order, those that can still go over."""
    going, lines, outputs = [], set(), set()
    for copy in copies:
        if line_of[copy] not in lines and copy[1] not in outputs:
            going.append(copy)
            lines.add(line_of[copy])
            outputs.add(copy[1])
    return tuple(going)


def by_order(order):
    """A scheduler that takes what waits by an order of the copies, which may hang on the phase."""
    def scheduler(views):
        line_of = {copy: line for line, waiting in enumerate(views[-1]) for copy in waiting}
        return picked(sorted(line_of, key=lambda copy: order(copy, line_of[copy], len(views))), line_of)
    return scheduler


def nothing(views):
    return ()


SCHEDULERS = [
    nothing,
    by_order(lambda copy, line, phase: copy),
    by_order(lambda copy, line, phase: (-copy[0], copy[1])),
    by_order(lambda copy, line, phase: (copy[1], copy[0])),
    by_order(lambda copy, line, phase: (-copy[1], copy[0])),
    by_order(lambda copy, line, phase: ((copy[1] - line + phase) // 2, copy)),
] + [by_order(lambda copy, line, phase, k=k: ((copy[0] * 7 + copy[1] * 5 + phase * 3 + k * 11) % 13, copy))
     for k in range(13)]


def lasting(most):
    """A scheduler that is late in beat MOST only: first all of the lines below MOST, then the newest cells."""
    def order(copy, line, phase):
        if phase <= most:
            return (line == most, (copy[1] - line - phase) % most, copy)
        return (-copy[0], copy[1])
    return by_order(order)


SCHEDULERS += [lasting(most) for most in MOSTS]


def coming(most, victim, beat):
    """The arrivals of a beat as 7.1 tells them."""
    if beat == 0:
        lines, outs = range(most + 1), tuple(range(most))
    else:
        lines, outs = (victim,), tuple(range(most, 2 * most))
    return tuple([(0, 0, outs) if line in lines else None for line in range(2 * most)])


def led(most, scheduler):
    """7.1 told anew, with a list of what waits and a count at each ideal output."""
    waits, queues, over, views, arrivals = [], [[] for _ in range(2 * most)], [], [], []
    victim, number = None, 0
    for beat in itertools.count():
        arrivals.append(coming(most, victim, beat))
        for line, arrival in enumerate(arrivals[-1]):
            if arrival:
                waits += [(number, output, line) for output in arrival[2]]
                for output in arrival[2]:
                    queues[output].append(number)
                number += 1
        for _ in range(most):
            views.append(tuple([tuple(sorted([wait[:2] for wait in waits if wait[2] == line]))
                                for line in range(2 * most)]))
            going = scheduler(list(views))
            over += going
            waits = [wait for wait in waits if wait[:2] not in going]
        if beat == 0:
            victim = min(waits)[2]
        late = [(queue[0], output) for output, queue in enumerate(queues) if queue and (queue[0], output) not in over]
        if late:
            return tuple(arrivals), min(late), beat
        for queue in queues:
            del queue[:1]


class Against(unittest.TestCase):
    def test_as_told_anew(self):
        for most in MOSTS:
            for scheduler in SCHEDULERS:
                self.assertEqual(against(most, scheduler), led(most, scheduler))

    def test_fact_of_one_phase_less(self):
        for most in MOSTS:
            for scheduler in SCHEDULERS:
                arrivals, copy, beat = against(most, scheduler)
                self.assertLessEqual(beat, most)
                self.assertEqual(len(arrivals), beat + 1)
                ranks = {(number, output): 0 for number, outs in enumerate(
                    [arrival[2] for row in arrivals for arrival in row if arrival]) for output in outs}
                self.assertEqual(ideal_beats(2 * most, most, arrivals, ranks)[copy], beat)
                self.assertIs(is_against(most, (arrivals, copy, beat)), True)

    def test_schedulers_here_are_late_in_the_first_beat_and_in_the_last_one(self):
        beats = {(most, against(most, scheduler)[2]) for most in MOSTS for scheduler in SCHEDULERS}
        for most in MOSTS:
            self.assertIn((most, 0), beats)
            self.assertIn((most, most), beats)

    def test_every_scheduler_of_one_phase(self):
        for choice in itertools.product(range(3), repeat=2):
            def scheduler(views):
                waiting = sorted(sum(views[-1], ()))
                at = choice[len(views) - 1]
                return tuple(waiting[at:at + 1])
            self.assertEqual(against(1, scheduler), led(1, scheduler))

    def test_of_several_late_copies_the_least_is_told(self):
        self.assertEqual(against(3, nothing), ((coming(3, 0, 0),), (0, 0), 0))
        self.assertEqual(against(1, nothing), ((((0, 0, (0,)), (0, 0, (0,))),), (0, 0), 0))

    def test_victim_is_where_the_least_copy_waits(self):
        def other_line(views):
            return ((0, 0),) if len(views) == 1 else ((1, 0),)
        self.assertEqual(against(1, other_line), ((coming(1, 1, 0), coming(1, 1, 1)), (2, 1), 1))

    def test_views(self):
        for most in MOSTS:
            heard = []

            def scheduler(views):
                self.assertIsInstance(views, list)
                heard.append(views)
                return SCHEDULERS[1](views)
            arrivals, _, beat = against(most, scheduler)
            self.assertEqual(len(heard), most * (beat + 1))
            self.assertEqual([len(views) for views in heard], list(range(1, len(heard) + 1)))
            self.assertEqual(len({id(views) for views in heard}), len(heard))
            for views in heard:
                self.assertEqual(views, heard[-1][:len(views)])
                for view in views:
                    self.assertIsInstance(view, tuple)
                    self.assertEqual(len(view), 2 * most)
                    for waiting in view:
                        self.assertIsInstance(waiting, tuple)
                        self.assertEqual(list(waiting), sorted(waiting))
            first = tuple([tuple([(line, output) for output in range(most)]) for line in range(most + 1)])
            self.assertEqual(heard[0], [first + ((),) * (most - 1)])

    def test_changed_lists_change_nothing(self):
        def spoiler(views):
            going = SCHEDULERS[1](views)
            views[:] = [None]
            return going
        for most in MOSTS:
            self.assertEqual(against(most, spoiler), led(most, SCHEDULERS[1]))

    def test_what_no_scheduler_may_give(self):
        wrong = [thing for thing in odd_things() if thing != ()]
        wrong += [((0, 0), (0, 0)), ((0, 0), (0, 1)), ((0, 0), (1, 0)), ((0, 2),), ((3, 0),), ((-1, 0),), ((0, -1),),
                  ((0, False),), ((False, 0),), [(0, 0)], ([0, 0],), ((0, 0, 0),), ((0,),), (0, 0), ((0, 0), None),
                  ((0, 0), (1, 1), (2, 0)), (nested(DEEPEST - 1, tuple),), ((0, 0),) * 20000]
        for thing in wrong:
            check_raises(self, BadScheduler, {"at": 0}, against, 2, lambda views: thing)

    def test_order_of_what_is_given_is_free(self):
        def backwards(views):
            return SCHEDULERS[1](views)[::-1]
        for most in MOSTS:
            self.assertEqual(against(most, backwards), led(most, SCHEDULERS[1]))

    def test_what_went_over_waits_no_more(self):
        check_raises(self, BadScheduler, {"at": 1}, against, 2, lambda views: ((0, 0),))
        check_raises(self, BadScheduler, {"at": 1}, against, 1, lambda views: ((0, 0),))

    def test_phases_are_counted_through(self):
        for most in MOSTS:
            for at in range(most * (most + 1)):
                def scheduler(views):
                    return lasting(most)(views) if len(views) <= at else None
                check_raises(self, BadScheduler, {"at": at}, against, most, scheduler)

    def test_errors_of_the_scheduler_go_on(self):
        for error in (KeyError("mine"), ValueError("mine"), NoKey(), RuntimeError("mine")):
            def scheduler(views):
                raise error
            with self.assertRaises(error.__class__) as caught:
                against(1, scheduler)
            self.assertIs(caught.exception, error)

    def test_wrong_most(self):
        for thing in not_integers_from(1, 3):
            check_raises(self, NoMost, {}, against, thing, nothing)
            check_raises(self, NoMost, {}, against, thing, None)
            check_raises(self, NoMost, {}, first_beat, thing)
            check_raises(self, NoMost, {}, is_against, thing, None)


class FirstBeat(unittest.TestCase):
    def test_counts(self):
        self.assertEqual([first_beat(most) for most in MOSTS], [(2, 1), (6, 4), (12, 9)])

    def test_by_trying_all(self):
        for most in MOSTS:
            ties = list(itertools.product(range(most + 1), range(most)))
            matchings = [frozenset(some) for some in itertools.combinations(ties, most)
                         if len({line for line, _ in some}) == len({output for _, output in some}) == most]
            best = max([len(frozenset().union(*phases))
                        for phases in itertools.combinations_with_replacement(matchings, most)])
            self.assertEqual(first_beat(most), (len(ties), best))


class IsAgainst(unittest.TestCase):
    def test_right_ones(self):
        for most in MOSTS:
            for victim in range(most + 1):
                for beat in range(most + 1):
                    arrivals = tuple([coming(most, victim, at) for at in range(beat + 1)])
                    # In beat 0 cell 0 leaves everywhere; later on cell `beat`, and the victim's that came first.
                    due = [(beat, output) for output in range(most)]
                    if beat > 0:
                        due += [(most + beat, output) for output in range(most, 2 * most)]
                    for number in range(-1, 2 * most + 2):
                        for output in range(-1, 2 * most + 1):
                            thing = (arrivals, (number, output), beat)
                            self.assertIs(is_against(most, thing), (number, output) in due)

    def test_other_things(self):
        for most in MOSTS:
            arrivals, copy, beat = against(most, SCHEDULERS[1])
            right = (arrivals, copy, beat)
            self.assertIs(is_against(most, right), True)
            for thing in odd_things():
                self.assertIs(is_against(most, thing), False)
                for place in range(3):
                    self.assertIs(is_against(most, right[:place] + (thing,) + right[place + 1:]), False)
            for thing in (list(right), right + (0,), right[:2], (list(arrivals), copy, beat),
                          (arrivals, list(copy), beat), (arrivals, copy + (0,), beat), (arrivals, copy, beat + 1),
                          (arrivals, copy, beat - 1), (arrivals[:-1], copy, beat), (arrivals * 2, copy, beat),
                          (arrivals, copy, -1), ((), copy, -1), ((), (0, 0), 0)):
                self.assertIs(is_against(most, thing), False)

    def test_beats_up_to_most(self):
        for most in MOSTS:
            for beat in range(most + 3):
                arrivals = tuple([coming(most, 0, at) for at in range(beat + 1)])
                copy = (most + beat, most) if beat else (0, 0)
                self.assertIs(is_against(most, (arrivals, copy, beat)), beat <= most)

    def test_flags_are_no_integers(self):
        first = coming(1, 0, 0)
        self.assertIs(is_against(1, ((first,), (0, 0), 0)), True)
        for copy, beat in (((False, 0), 0), ((0, False), 0), ((0, 0), False)):
            self.assertIs(is_against(1, ((first,), copy, beat)), False)
        for arrival in ((False, 0, (0,)), (0, False, (0,)), (0, 0, (False,))):
            self.assertIs(is_against(1, (((arrival, first[1]),), (0, 0), 0)), False)
        second = coming(1, 0, 1)
        self.assertIs(is_against(1, ((first, second), (1, 0), 1)), True)
        self.assertIs(is_against(1, ((first, second), (True, 0), 1)), False)
        self.assertIs(is_against(1, ((first, second), (1, 0), True)), False)

    def test_arrivals_of_another_form(self):
        first, second = coming(2, 1, 0), coming(2, 1, 1)
        other = coming(2, 0, 1)
        beyond = coming(2, 3, 1)
        for arrivals, beat, right in (
                ((first, second, second), 2, True), ((first, second, other), 2, False), ((second, first), 1, False),
                ((first, beyond), 1, False), ((first, other), 1, True), ((first, first), 1, False),
                ((first, (None,) * 4), 1, False), ((first, ((1, 0, (2, 3)),) + (None,) * 3), 1, False),
                ((first, ((0, 1, (2, 3)),) + (None,) * 3), 1, False),
                ((first, ((0, 0, (2,)),) + (None,) * 3), 1, False),
                ((first, ((0, 0, [2, 3]),) + (None,) * 3), 1, False), ((first, list(other)), 1, False),
                ((first[:2] + (None, None), other), 1, False), (((first[0],) * 4, other), 1, False)):
            self.assertIs(is_against(2, (arrivals, (beat, 0), beat)), right)


if __name__ == "__main__":
    unittest.main()
