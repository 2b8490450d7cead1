"""Strangers' schedulers: 13.2."""

import unittest

from exactbeats.accounts import account_of
from exactbeats.errors import BadArrivals, NoLines, NoMost, NoNumber, NoPrograms
from exactbeats.ranks import Program
from exactbeats.strangers import asking, greedy, led
from tests.drawn import Drawn, drawn_arrivals, drawn_arrivals_of_beat
from tests.odd import check_raises, not_integers_from, odd_things
from tests.test_accounts import A, BUSY, KIND, SMALL, WRONG_ARRIVALS, Z, check_account, plain_run
from tests.test_house import COUNT, HELD
from tests.test_ranks import drawn_block

NONE = (None, None)


class Own(Exception):
    """What a stranger raises."""


class Watched:
    """A stranger by a table from (beat, phase) to answers, which keeps its views."""

    def __init__(self, answers=None, other=None):
        self.answers, self.other, self.views = answers or {}, other, []

    def __call__(self, *args):
        view, = args
        self.views.append(view)
        if view[:2] in self.answers:
            return self.answers[view[:2]]
        return self.other(view) if self.other else ()


def check_view(case, view, beat, phase, came, over):
    """That a view tells just the copies that came and were not carried over."""
    case.assertEqual((view.__class__, len(view), view[:2]), (tuple, 3, (beat, phase)))
    case.assertIs(view[2].__class__, tuple)
    for line, lot in enumerate(view[2]):
        waiting = [(output, key) for at, output, key in came if at == line and (output, key[1]) not in over]
        case.assertEqual((lot.__class__, list(lot)), (tuple, sorted(waiting)))


def by_hand(lines, most, programs, arrivals, phases, stranger):
    """What led tells, told anew, the stranger's answers being known as right."""
    left, came_at = plain_run(lines, programs, arrivals)
    over, carried = set(), []
    watched = Watched(other=stranger)
    told = led(lines, most, programs, arrivals, phases, watched)
    views = list(watched.views)
    for beat, sent in enumerate(left):
        carried.append([])
        for phase in range(phases):
            going = stranger(views.pop(0))
            carried[-1].append(going)
            over.update([(cell, output) for _, output, cell in going])
        for output, cell in enumerate(sent):
            if cell is not None and (cell, output) not in over:
                return told, ("late", beat, output), len(views)
    return told, ("kept", carried, left), len(views)


class Led(unittest.TestCase):
    def test_kept(self):
        self.assertEqual(led(*SMALL, 2, asking), ("kept", [[((0, 0, 0),), ((1, 0, 1),)], [(), ()]],
                                                  [(0, None), (1, None)]))
        answers = {(0, 0): ((0, 0, 0),), (1, 0): ((1, 0, 1),)}
        self.assertEqual(led(*SMALL, 1, Watched(answers)), ("kept", [[((0, 0, 0),)], [((1, 0, 1),)]],
                                                            [(0, None), (1, None)]))
        self.assertEqual(led(*SMALL, 3, Watched(answers)), ("kept", [[((0, 0, 0),), (), ()], [((1, 0, 1),), (), ()]],
                                                            [(0, None), (1, None)]))
        self.assertEqual(led(2, 1, (Z, Z), (), 8, asking), ("kept", [], []))
        self.assertEqual(led(2, 1, (Z, Z), (NONE,), 2, Watched()), ("kept", [[(), ()]], [NONE]))

    def test_late(self):
        one, two = ((0, 0, 0),), ((1, 0, 1),)
        for answers, told in (({}, ("late", 0, 0)), ({(0, 0): two}, ("late", 0, 0)), ({(0, 1): one}, ("late", 1, 0)),
                              ({(0, 0): one, (0, 1): ()}, ("late", 1, 0)), ({(0, 0): two, (0, 1): ()}, ("late", 0, 0))):
            self.assertEqual(led(*SMALL, 2, Watched(answers)), told)
        # The least output of the first beat.
        arrivals = (((0, 0, (0, 1, 2)), None, None), (None, (0, 0, (0, 1)), None))
        for answers, told in (
                ({}, ("late", 0, 0)), ({(0, 0): ((0, 0, 0),)}, ("late", 0, 1)), ({(0, 1): ((0, 1, 0),)}, ("late", 0, 0)),
                ({(0, 0): ((0, 0, 0),), (0, 1): ((0, 2, 0),)}, ("late", 0, 1)),
                ({(0, 0): ((0, 0, 0),), (0, 1): ((0, 1, 0),)}, ("late", 0, 2)),
                ({(0, 0): ((0, 0, 0),), (0, 1): ((0, 1, 0),), (0, 2): ((0, 2, 0),)}, ("late", 1, 0)),
                ({(0, 0): ((0, 0, 0),), (0, 1): ((0, 1, 0),), (0, 2): ((0, 2, 0),), (1, 0): ((1, 0, 1),)},
                 ("late", 1, 1))):
            self.assertEqual(led(3, 3, (Z,) * 3, arrivals, 3, Watched(answers)), told)

    def test_what_ends_first_is_told(self):
        one = ((0, 0, 0),)
        self.assertEqual(led(*SMALL, 1, Watched({(1, 0): None})), ("late", 0, 0))
        self.assertEqual(led(*SMALL, 2, Watched({(0, 1): None})), ("wrong", 0, 1))
        self.assertEqual(led(*SMALL, 2, Watched({(0, 0): one, (1, 0): one})), ("wrong", 1, 0))
        # The run ends with the answer that is wrong.
        for at in ((0, 0), (0, 1), (1, 0), (1, 1)):
            watched = Watched({at: None, **({} if at == (0, 0) else {(0, 0): one})}, asking)
            self.assertEqual(led(*SMALL, 2, watched), ("wrong", *at))
            self.assertEqual(watched.views[-1][:2], at)
            self.assertEqual(len(watched.views), 2 * at[0] + at[1] + 1)

    def test_wrong_answers(self):
        args = (2, 1, (Z, Z), ((A, (0, 0, (1,))), ((0, 0, (1,)), None)))
        one, two = (0, 0, 0), (1, 1, 1)
        wrong = [None, [], [one], one, (one, one), (two, one), (one, two, two), ((0, 1, 0),), ((1, 0, 0),), ((0, 0, 1),),
                 ((0, 0, 2),), ((0, 1, 2),), ((2, 0, 0),), ((-1, 0, 0),), ((-1, 1, 1),), ((-2, 0, 0),), ((0, 2, 0),), ((0, -1, 0),),
                 ([*one],), (one + (0,),), (one[:2],), ((0, 0, (0, 0)),), ((False, 0, 0),), ((0, False, 0),),
                 ((0, 0, False),), ((True, 1, 1),), ((1, True, 1),), ((1, 1, True),), (one, None), (one, 0), {}]
        wrong += [thing for thing in odd_things() if thing != ()] + [(thing,) for thing in odd_things()]
        wrong += [((thing, 0, 0),) for thing in odd_things()] + [((0, thing, 0),) for thing in odd_things()]
        wrong += [((0, 0, thing),) for thing in odd_things()]
        for thing in wrong:
            self.assertEqual(led(*args, 1, Watched({(0, 0): thing})), ("wrong", 0, 0), thing)
            self.assertEqual(led(*args, 2, Watched({(0, 0): (), (0, 1): thing})), ("wrong", 0, 1), thing)
        # What was carried is carried no more; two for one output, two of one line.
        self.assertEqual(led(*args, 2, Watched({(0, 0): (one, two), (0, 1): (one,)})), ("wrong", 0, 1))
        both = (2, 2, (Z, Z), (((0, 0, (0, 1)), A),))
        self.assertEqual(led(*both, 1, Watched({(0, 0): ((0, 0, 0), (0, 1, 0))})), ("wrong", 0, 0))
        self.assertEqual(led(*both, 1, Watched({(0, 0): ((0, 0, 0), (1, 0, 1))})), ("wrong", 0, 0))
        self.assertEqual(led(*both, 2, Watched({(0, 0): ((0, 1, 0), (1, 0, 1)), (0, 1): ((0, 0, 0),)}))[0], "kept")

    def test_views(self):
        lines, most, programs, arrivals = BUSY
        left, _ = plain_run(lines, programs, arrivals)
        for phases in (3, 5, 8):
            watched = Watched(other=asking)
            kind, carried, sent = led(*BUSY, phases, watched)
            self.assertEqual((kind, sent, len(watched.views)), ("kept", left, phases * len(left)))
            over = set()
            told = account_of(*BUSY)
            self.assertEqual(told["sent"], sent)
            came = self.came(BUSY)
            for beat in range(len(left)):
                for phase in range(phases):
                    view = watched.views[phases * beat + phase]
                    check_view(self, view, beat, phase, [each[1:] for each in came if each[0] <= beat], over)
                    over.update([(output, cell) for _, output, cell in carried[beat][phase]])
        self.assertEqual(led(*BUSY, 3, asking)[1], told["carried"])

    def came(self, args):
        """The copies that came, with their keys, as a stranger that carries nothing sees them in runs of one beat more
        each."""
        lines, most, programs, arrivals = args
        came, known = [], set()
        for beat in range(len(arrivals)):
            watched = Watched(other=asking)
            led(lines, most, programs, arrivals[:beat + 1], 8, watched)
            view = [view for view in watched.views if view[:2] == (beat, 0)][0]
            for line, lot in enumerate(view[2]):
                for output, key in lot:
                    if (output, key) not in known:
                        known.add((output, key))
                        came.append((beat, line, output, key))
        return came

    def test_views_tell_ranks(self):
        watched = Watched({(0, 0): ((0, 0, 0),)})
        led(2, 1, (KIND, Z), (((0, 5, (0,)), (0, 7, (0,))), ((0, 4, (0,)), None)), 1, watched)
        self.assertEqual(watched.views, [
            (0, 0, (((0, (5, 0)),), ((0, (7, 1)),))), (1, 0, (((0, (4, 2)),), ((0, (7, 1)),)))])
        watched = Watched()
        led(2, 2, (HELD, COUNT), (((0, 0, (0, 1)), (0, 0, (0, 1))),), 1, watched)
        self.assertEqual(watched.views, [(0, 0, (((0, (0, 0)), (1, (-1, 0))), ((0, (-1, 1)), (1, (-2, 1)))))])

    def test_as_told_anew(self):
        drawn = Drawn(81)
        kinds = []
        for lines in (1, 2, 3, 4, 6):
            for most in (1, 2, 3):
                for phases in (1, 2, 3, 4, 8):
                    programs = tuple([Program(drawn_block(drawn, 2)) for _ in range(lines)])
                    arrivals = drawn_arrivals(drawn, lines, most, 6, 3, 4)
                    for stranger in (asking, greedy, lambda view: asking(view)[:1]):
                        told, anew, left_over = by_hand(lines, most, programs, arrivals, phases, stranger)
                        self.assertEqual(told, anew)
                        self.assertEqual(left_over, 0)
                        kinds.append(told[0])
                        if told[0] == "kept" and phases == most + 1:
                            check_account(self, lines, most, programs, arrivals, {"carried": told[1], "sent": told[2]})
        self.assertTrue(kinds.count("late") > 20 and kinds.count("kept") > 20)

    def test_errors_of_the_function_go_on(self):
        def raising(view):
            if view[:2] == (1, 1):
                raise Own("mine")
            return asking(view)
        for phases in (2, 3):
            with self.assertRaises(Own) as caught:
                led(*SMALL, phases, raising)
            self.assertEqual(caught.exception.args, ("mine",))
        self.assertEqual(led(*SMALL, 1, raising)[0], "kept")

        def wrong(view):
            raise NoNumber()
        check_raises(self, NoNumber, {}, led, *SMALL, 2, wrong)

    def test_errors_in_their_order(self):
        for thing in not_integers_from(1, 12):
            check_raises(self, NoLines, {}, led, thing, None, None, None, None, None)
        for thing in not_integers_from(1, 3):
            check_raises(self, NoMost, {}, led, 2, thing, None, None, None, None)
        for thing in [thing for thing in odd_things() if not isinstance(thing, tuple)] + [(), (Z,), (Z,) * 3]:
            check_raises(self, NoPrograms, {"output": -1}, led, 2, 1, thing, None, None, None)
        check_raises(self, NoPrograms, {"output": 1}, led, 2, 1, (Z, None), None, None, None)
        for arrivals, at in WRONG_ARRIVALS:
            check_raises(self, BadArrivals, {"at": at}, led, 2, 1, (Z, Z), arrivals, None, None)
        watched = Watched()
        for thing in not_integers_from(1, 8):
            check_raises(self, NoNumber, {}, led, *SMALL, thing, watched)
        self.assertEqual(watched.views, [])


class Strangers(unittest.TestCase):
    def test_asking_is_kept(self):
        drawn = Drawn(82)
        for lines in (1, 2, 3, 5, 8, 12):
            for most in (1, 2, 3):
                programs = tuple([Program(drawn_block(drawn, 1)) for _ in range(lines)])
                arrivals = tuple([drawn_arrivals_of_beat(drawn, lines, most, 1 + beat % 4, 4) for beat in range(25)])
                for phases in range(most + 1, 9, 1 + drawn.below(3)):
                    told = led(lines, most, programs, arrivals, phases, asking)
                    self.assertEqual((told[0], told[2]), ("kept", plain_run(lines, programs, arrivals)[0]))

    def test_asking_is_kept_where_lines_are_full(self):
        for most, outs, programs in ((3, (0, 1, 2), (COUNT,) * 12), (2, (4, 5), (Z,) * 12), (1, (11,), (KIND,) * 12)):
            arrivals = tuple([tuple([(line, (beat + line) % 8, outs) for line in range(12)]) for beat in range(40)])
            self.assertEqual(led(12, most, programs, arrivals, most + 1, asking)[0], "kept")

    def test_asking_answers_what_may_go_over(self):
        drawn = Drawn(83)
        for lines in range(1, 13):
            for _ in range(20):
                view = drawn_view(drawn, lines)
                self.check_answer(view, asking(view))
                self.check_answer(view, greedy(view))
                self.assertEqual(asking(view), asking(view))

    def check_answer(self, view, going):
        self.assertEqual((going.__class__, list(going)), (tuple, sorted(going)))
        for triple in going:
            line, output, cell = triple
            self.assertIs(triple.__class__, tuple)
            self.assertIn((output, cell), [(out, key[1]) for out, key in view[2][line]])
        self.assertEqual(len({line for line, _, _ in going}), len(going))
        self.assertEqual(len({output for _, output, _ in going}), len(going))

    def test_greedy(self):
        for lots, told in (
                ((), ()), (((),), ()), ((((0, (5, 3)),),), ((0, 0, 3),)),
                ((((0, (1, 0)), (1, (0, 0))), ((0, (2, 1)), (1, (0, 1)))), ((0, 1, 0), (1, 0, 1))),
                ((((0, (0, 2)), (1, (0, 2))), ((1, (-1, 1)),)), ((0, 0, 2), (1, 1, 1))),
                # Equal keys: by the line, then by the output.
                ((((0, (0, 0)), (1, (0, 0))), ((0, (0, 0)), (1, (0, 0)))), ((0, 0, 0), (1, 1, 0))),
                ((((1, (0, 0)),), ((0, (0, 0)), (1, (0, 0)))), ((0, 1, 0), (1, 0, 0))),
                # Not as many as could be: the least key goes ahead.
                ((((0, (0, 0)), (1, (1, 0))), ((0, (1, 1)),)), ((0, 0, 0),)),
                ((((0, (0, 9)),), ((0, (0, 8)),), ((0, (0, 7)), (2, (9, 0)))), ((2, 0, 7),))):
            self.assertEqual(greedy((0, 0, lots)), told)
            self.assertEqual(greedy((7, 3, lots)), told)

    def test_greedy_told_anew(self):
        drawn = Drawn(84)
        for _ in range(300):
            view = drawn_view(drawn, 1 + drawn.below(12))
            left = [(key, line, output) for line, lot in enumerate(view[2]) for output, key in lot]
            going = []
            while left:
                key, line, output = min(left)
                going.append((line, output, key[1]))
                left = [each for each in left if each[1] != line and each[2] != output]
            self.assertEqual(greedy(view), tuple(sorted(going)))


def drawn_view(drawn, lines):
    lots, number = [], 0
    for _ in range(lines):
        copies = []
        for _ in range(drawn.below(4)):
            for output in drawn.lot(lines, 1 + drawn.below(min(3, lines))):
                copies.append((output, (drawn.below(5) - 2, number)))
            number += 1
        lots.append(tuple(sorted(copies)))
    return (drawn.below(200), drawn.below(8), tuple(lots))


if __name__ == "__main__":
    unittest.main()
