"""Accounts: 13.1, and what leaves by 6.3 and 12.2 in great runs."""

import copy
import unittest

from exactbeats.accounts import account_of, is_right_account
from exactbeats.errors import BadArrivals, NoLines, NoMost, NoPrograms
from exactbeats.ranks import Program
from exactbeats.switch import Switch
from tests.drawn import Drawn, drawn_arrivals, drawn_arrivals_of_beat
from tests.odd import check_judged, check_raises, not_integers_from, odd_things
from tests.test_house import COUNT, HELD, PlainHouse
from tests.test_ranks import drawn_block

Z = Program(())
A = (0, 0, (0,))
SMALL = (2, 1, (Z, Z), ((A, A),))
KIND = Program((("rank", ("fact", "kind")),))
# For 2 lines and 1 copy: what are no arrivals, and where.
WRONG_ARRIVALS = ((((None, None),) * 201, -1), (((None,),), 0), (((None, None), [None, None]), 1),
                  (((A, None), (None, (0, 0, (0, 1)))), (1, 1)), (((A, (0, 8, (0,))),), (0, 1)),
                  ((((100, 0, (0,)), A),), (0, 0)), (((A, A), (A, (0, 0, (2,)))), (1, 1)))
BUSY = (3, 2, (COUNT, KIND, HELD), (((0, 4, (0, 1)), (1, 3, (1,)), (2, 2, (0, 1))), (None, (3, 7, (0, 2)), None),
                                    ((4, 0, (1, 2)), (5, 1, (1,)), None)))


def plain_run(lines, programs, arrivals):
    """What leaves, beat by beat until all has, and for each copy its line and the beat in which it came."""
    house, came_at, left = PlainHouse(lines), {}, []
    house.ranker = house.ranker.turned(programs)
    for beat, coming in enumerate(arrivals):
        left.append(house.beat(coming))
        for number, line in house.book[-1][0]:
            for output in coming[line][2]:
                came_at[number, output] = (line, beat)
    while any([house.ideal.held(output) for output in range(lines)]):
        left.append(house.beat((None,) * lines))
    return left, came_at


def check_account(case, lines, most, programs, arrivals, account):
    """13.1 told anew: that an account is right."""
    left, came_at = plain_run(lines, programs, arrivals)
    case.assertEqual((account.__class__, list(account)), (dict, ["carried", "sent"]))
    case.assertEqual(account["sent"], left)
    case.assertEqual(len(account["carried"]), len(left))
    over = {}
    for beat, phases in enumerate(account["carried"]):
        case.assertEqual((phases.__class__, len(phases)), (list, most + 1))
        for phase in phases:
            case.assertEqual((phase.__class__, list(phase)), (tuple, sorted(phase)))
            case.assertEqual(len({line for line, _, _ in phase}), len(phase))
            case.assertEqual(len({output for _, output, _ in phase}), len(phase))
            for line, output, cell in phase:
                case.assertEqual(came_at[cell, output][0], line)
                case.assertLessEqual(came_at[cell, output][1], beat)
                case.assertNotIn((cell, output), over)
                over[cell, output] = beat
        for output, cell in enumerate(left[beat]):
            if cell is not None:
                case.assertLessEqual(over.get((cell, output), beat + 1), beat)
    case.assertEqual(sorted(over), sorted(came_at))


def by_the_switch(lines, most, programs, arrivals):
    """The account that a switch makes that is led by hand, the ranks being given as in 12.1."""
    house, switch, carried, sent = PlainHouse(lines), Switch(lines, most), [], []
    house.ranker = house.ranker.turned(programs)
    beat = 0
    while beat < len(arrivals) or any(switch.ideal_rows()):
        coming = arrivals[beat] if beat < len(arrivals) else (None,) * lines
        before = house.number
        house.beat(coming)
        for number, line in house.book[-1][0]:
            ranks = [(output, house.ranks[number, output]) for output in coming[line][2]]
            assert switch.come(line, tuple(ranks)) == number >= before
        phases = []
        for _ in range(most + 1):
            standing = switch.standing()
            phases.append(tuple([(line, output, standing[line][place][1][1])
                                 for line, output, place in switch.phase()]))
        carried.append(phases)
        sent.append(tuple([key[1] if key else None for key in switch.send()]))
        beat += 1
    return {"carried": carried, "sent": sent}


class Accounts(unittest.TestCase):
    def test_the_first_account(self):
        self.assertEqual(account_of(*SMALL), {"carried": [[((0, 0, 0),), ((1, 0, 1),)], [(), ()]],
                                              "sent": [(0, None), (1, None)]})

    def test_without_arrivals(self):
        for lines in range(1, 13):
            for most in (1, 2, 3):
                self.assertEqual(account_of(lines, most, (COUNT,) * lines, ()), {"carried": [], "sent": []})
                beats = ((None,) * lines,) * 3
                self.assertEqual(account_of(lines, most, (COUNT,) * lines, beats),
                                 {"carried": [[()] * (most + 1)] * 3, "sent": [(None,) * lines] * 3})

    def test_ranks_by_programs(self):
        account = account_of(2, 1, (KIND, Z), (((0, 5, (0,)), (0, 3, (0,))), ((0, 4, (0,)), None)))
        self.assertEqual(account["sent"], [(1, None), (2, None), (0, None)])
        # By the beat, and what the ideal output holds just then.
        account = account_of(2, 1, (HELD, Z), ((A, A), (A, A)))
        self.assertEqual(account["sent"], [(1, None), (3, None), (2, None), (0, None)])
        # By numbers that are kept: the last one that came leaves first.
        account = account_of(3, 1, (COUNT,) * 3, ((A, A, A),))
        self.assertEqual(account["sent"], [(2, None, None), (1, None, None), (0, None, None)])

    def test_as_the_switch_itself(self):
        drawn = Drawn(71)
        for lines in (1, 2, 3, 5, 12):
            for most in (1, 2, 3):
                programs = tuple([Program(drawn_block(drawn, 2)) for _ in range(lines)])
                arrivals = drawn_arrivals(drawn, lines, most, 12, 3, 4)
                told = account_of(lines, most, programs, arrivals)
                self.assertEqual(told, by_the_switch(lines, most, programs, arrivals))
                check_account(self, lines, most, programs, arrivals, told)
                self.assertIs(is_right_account(lines, most, programs, arrivals, told), True)

    def test_lists_and_dicts_are_new(self):
        first = account_of(*BUSY)
        kept = copy.deepcopy(first)
        first["carried"][0].clear()
        first["sent"].clear()
        self.assertEqual(account_of(*BUSY), kept)

    def test_errors_in_their_order(self):
        for call in (account_of, lambda *args: is_right_account(*args, None)):
            for thing in not_integers_from(1, 12):
                check_raises(self, NoLines, {}, call, thing, None, None, None)
            for thing in not_integers_from(1, 3):
                check_raises(self, NoMost, {}, call, 2, thing, None, None)
            for thing in odd_things():
                if not isinstance(thing, tuple):
                    check_raises(self, NoPrograms, {"output": -1}, call, 2, 1, thing, None)
                if not isinstance(thing, Program):
                    check_raises(self, NoPrograms, {"output": 0}, call, 2, 1, (thing, thing), None)
                    check_raises(self, NoPrograms, {"output": 1}, call, 2, 1, (Z, thing), None)
            for many in (0, 1, 3, 12, 13):
                check_raises(self, NoPrograms, {"output": -1}, call, 2, 1, (Z,) * many, None)
            check_raises(self, NoPrograms, {"output": -1}, call, 2, 1, [Z, Z], ())
            for thing in odd_things():
                if not isinstance(thing, tuple):
                    check_raises(self, BadArrivals, {"at": -1}, call, 2, 1, (Z, Z), thing)
            for arrivals, at in WRONG_ARRIVALS:
                check_raises(self, BadArrivals, {"at": at}, call, 2, 1, (Z, Z), arrivals)


class Judged(unittest.TestCase):
    def wrong(self, *things, args=SMALL):
        for thing in things:
            self.assertIs(is_right_account(*args, thing), False, thing)

    def right(self, *things, args=SMALL):
        for thing in things:
            self.assertIs(is_right_account(*args, thing), True, thing)

    def test_odd_things(self):
        check_judged(self, is_right_account, SMALL, [account_of(*SMALL)])
        self.right({"carried": [], "sent": []}, args=(1, 1, (Z,), ()))
        self.wrong({}, {"carried": []}, {"sent": []}, {"carried": [], "sent": ()}, {"carried": (), "sent": []},
                   {"carried": [[]], "sent": []}, {"carried": [], "sent": [()]}, {"carried": None, "sent": None},
                   args=(1, 1, (Z,), ()))

    def test_an_odd_thing_at_each_place(self):
        told = account_of(*SMALL)
        for thing in odd_things():
            for put in (lambda other: other.update(carried=thing), lambda other: other.update(sent=thing),
                        lambda other: other["carried"].__setitem__(0, thing),
                        lambda other: other["carried"].__setitem__(1, thing),
                        lambda other: other["carried"][0].__setitem__(1, thing),
                        lambda other: other["carried"][0].__setitem__(0, (thing,)),
                        lambda other: other["carried"][0].__setitem__(0, ((thing, 0, 0),)),
                        lambda other: other["carried"][0].__setitem__(0, ((0, thing, 0),)),
                        lambda other: other["carried"][0].__setitem__(0, ((0, 0, thing),)),
                        lambda other: other["sent"].__setitem__(0, thing),
                        lambda other: other["sent"].__setitem__(1, thing),
                        lambda other: other["sent"].__setitem__(0, (thing, None))):
                other = copy.deepcopy(told)
                put(other)
                self.wrong(other)
            if thing is not None:
                self.wrong({"carried": told["carried"], "sent": [(0, thing), (1, None)]})
            if not isinstance(thing, tuple) or thing:
                self.wrong({"carried": [told["carried"][0], [(), thing]], "sent": told["sent"]})

    def test_what_may_be_carried_when_is_free(self):
        sent = [(0, None), (1, None)]
        one, two = (0, 0, 0), (1, 0, 1)
        self.right(*[{"carried": carried, "sent": sent} for carried in (
            [[(one,), (two,)], [(), ()]], [[(one,), ()], [(two,), ()]], [[(one,), ()], [(), (two,)]],
            [[(), (one,)], [(two,), ()]], [[(), (one,)], [(), (two,)]], [[(two,), (one,)], [(), ()]])])
        self.right({"sent": sent, "carried": [[(one,), (two,)], [(), ()]]})
        # A dict with both: what else it holds is not judged.
        self.right({"sent": sent, "carried": [[(one,), (two,)], [(), ()]], "more": None, 0: [None]})
        # Late, twice, never, two for one output, of another line, of another output, of no cell, in another order.
        self.wrong(*[{"carried": carried, "sent": sent} for carried in (
            [[(two,), ()], [(one,), ()]], [[(one,), (one,)], [(two,), ()]], [[(one,), ()], [(one,), (two,)]],
            [[(one,), ()], [(), ()]], [[(), ()], [(), ()]], [[(one, two), ()], [(), ()]],
            [[((1, 0, 0),), (two,)], [(), ()]], [[((0, 1, 0),), (two,)], [(), ()]], [[((0, 0, 2),), (two,)], [(), ()]],
            [[((2, 0, 0),), (two,)], [(), ()]], [[((-1, 0, 0),), (two,)], [(), ()]],
            [[((-2, 0, 0),), (two,)], [(), ()]], [[(one,), ((-1, 0, 1),)], [(), ()]],
            [[(one,), (two, two)], [(), ()]],
            [[((False, 0, 0),), (two,)], [(), ()]], [[((0, False, 0),), (two,)], [(), ()]],
            [[((0, 0, False),), (two,)], [(), ()]], [[(one,), ((True, 0, 1),)], [(), ()]],
            [[(one,), ((1, 0, True),)], [(), ()]], [[(one,), ([*two],)], [(), ()]], [[(one,), [two]], [(), ()]],
            [[(one,), (two + (0,),)], [(), ()]], [[(one,), (two[:2],)], [(), ()]])])

    def test_lengths_and_kinds(self):
        carried, sent = [[((0, 0, 0),), ((1, 0, 1),)], [(), ()]], [(0, None), (1, None)]
        for wrong in (carried[:1], carried + [[(), ()]], tuple(carried), [tuple(carried[0]), carried[1]],
                      [carried[0], tuple(carried[1])], [carried[0], [()]], [carried[0], [(), (), ()]], [carried[0], []],
                      [carried[0] + [()], carried[1]], [carried[0], [(), []]], [carried[0], [(), None]]):
            self.wrong({"carried": wrong, "sent": sent})
        for wrong in (sent[:1], sent + [(None, None)], tuple(sent), [list(sent[0]), sent[1]], [(0,), (1, None)],
                      [(0, None, None), (1, None)], [(False, None), (1, None)], [(0, None), (True, None)],
                      [(1, None), (0, None)], [(0, None), (None, 1)], [(0, 1), (None, None)], [(0, None), (None, None)],
                      [(None, None), (1, None)], [(0, None), (2, None)], [(0, False), (1, None)]):
            self.wrong({"carried": carried, "sent": wrong})
        self.wrong({"carried": sent, "sent": carried}, {"Carried": carried, "sent": sent}, [carried, sent],
                   (carried, sent), {"carried": carried}, {"sent": sent}, {0: carried, 1: sent})

    def test_copies_are_carried_in_their_beat_or_later(self):
        args = (2, 1, (Z, Z), ((A, None), ((0, 0, (1,)), None)))
        told = account_of(*args)
        self.assertEqual(told["carried"], [[((0, 0, 0),), ()], [((0, 1, 1),), ()]])
        self.right(told, {"carried": [[(), ((0, 0, 0),)], [(), ((0, 1, 1),)]], "sent": told["sent"]}, args=args)
        self.wrong({"carried": [[((0, 0, 0),), ((0, 1, 1),)], [(), ()]], "sent": told["sent"]}, args=args)

    def test_accounts_of_other_runs(self):
        told = account_of(*BUSY)
        self.right(told, args=BUSY)
        lines, most, programs, arrivals = BUSY
        self.wrong(told, args=(lines, 3, programs, arrivals))
        self.wrong(told, args=(lines, most, (Z, Z, Z), arrivals))
        self.wrong(told, args=(lines, most, programs, arrivals[:-1]))
        self.wrong(told, args=(lines, most, programs, arrivals + ((A, A, A),)))
        self.wrong(told, account_of(*BUSY))

    def test_drawn_changes(self):
        """Right just if 13.1 told anew takes it, too."""
        drawn = Drawn(72)
        told = account_of(*BUSY)
        right = 0
        for _ in range(2500):
            other = copy.deepcopy(told)
            for _ in range(1 + drawn.below(2)):
                phases = [(beat, phase) for beat in range(len(told["carried"])) for phase in range(3)]
                (beat, phase), (to, other_phase) = drawn.among(phases), drawn.among(phases)
                going = list(other["carried"][beat][phase])
                if going:
                    moved = going.pop(drawn.below(len(going)))
                    other["carried"][beat][phase] = tuple(going)
                    other["carried"][to][other_phase] = tuple(sorted(other["carried"][to][other_phase] + (moved,)))
            try:
                check_account(self, *BUSY, other)
                plainly = True
            except AssertionError:
                plainly = False
            right += plainly
            self.assertIs(is_right_account(*BUSY, other), plainly)
        self.assertTrue(300 < right < 2200, right)

    def test_arguments_stay_as_they_are(self):
        told = account_of(*BUSY)
        kept = copy.deepcopy(told)
        is_right_account(*BUSY, told)
        self.assertEqual(told, kept)


class GreatRuns(unittest.TestCase):
    """The great fact: each copy leaves in the beat of the ideal switch, whatever comes."""

    def check(self, lines, most, programs, arrivals):
        told = account_of(lines, most, programs, arrivals)
        check_account(self, lines, most, programs, arrivals, told)
        self.assertIs(is_right_account(lines, most, programs, arrivals, told), True)

    def test_as_long_and_wide_as_can_be(self):
        lines, beats = 12, 200
        for most, outs, programs in ((3, (0, 1, 2), (COUNT,) * 12), (3, (3, 7, 11), (KIND,) * 12), (1, (5,), (HELD,) * 12)):
            arrivals = tuple([tuple([(line, (beat + line) % 8, outs) for line in range(lines)]) for beat in range(beats)])
            self.check(lines, most, programs, arrivals)

    def test_drawn_runs(self):
        drawn = Drawn(73)
        for lines, most, beats in ((1, 1, 200), (2, 3, 120), (4, 1, 200), (6, 2, 90), (8, 3, 80), (12, 3, 60), (12, 1, 90)):
            programs = tuple([Program(drawn_block(drawn, 1)) for _ in range(lines)])
            arrivals = tuple([drawn_arrivals_of_beat(drawn, lines, most, 1 + beat % 4, 4) for beat in range(beats)])
            self.check(lines, most, programs, arrivals)


if __name__ == "__main__":
    unittest.main()
