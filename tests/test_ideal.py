"""The ideal switch and its runs: 3.1 and 3.2."""

import random
import unittest

from exactbeats.cells import Cell, cells, copies
from exactbeats.errors import BadArrivals, BadRanks, KeyThere, NoKey, NoLines, NoMost, NoOutput, NothingThere
from exactbeats.ideal import Ideal, ideal_beats, ideal_run
from tests.odd import check_raises, not_integers_from, odd_things

HIGH = 10 ** 18
A = (0, 0, (0,))
B = (0, 0, (1,))


def everything(ideal, outputs):
    return [ideal.held(output) for output in range(outputs)]


def wrong_keys():
    keys = [[0, 0], (0,), (0, 0, 0), (0, -1), (0, 10 ** 9 + 1), (HIGH + 1, 0), (-HIGH - 1, 0), (True, 0), (0, False),
            (None, 0), (0, None), ("0", 0), (0, "0"), ((0,), 0), (0, (0,)), 0]
    return keys + odd_things()


def random_arrivals(chance, lines, most, beats):
    def item():
        if chance.random() < 0.4:
            return None
        outs = tuple(sorted(chance.sample(range(lines), chance.randint(1, min(lines, most)))))
        return (chance.randrange(100), chance.randrange(8), outs)
    return tuple([tuple([item() for _ in range(lines)]) for _ in range(beats)])


def all_copies(lines, most, arrivals):
    return [copy for came in cells(lines, most, arrivals) for cell in came for copy in copies(cell)]


def plain_run(lines, arrivals, ranks):
    """What 3.2 tells, written anew: each output sorts what it holds in each beat."""
    held = [[] for _ in range(lines)]
    run, number, beat = [], 0, 0
    while beat < len(arrivals) or any(held):
        for arrival in arrivals[beat] if beat < len(arrivals) else ():
            if arrival is not None:
                for output in arrival[2]:
                    held[output].append((ranks[(number, output)], number))
                number += 1
        run.append(tuple([min(keys)[1] if keys else None for keys in held]))
        for keys in held:
            if keys:
                keys.remove(min(keys))
        beat += 1
    return run


class Outputs(unittest.TestCase):
    def test_keys_ascend(self):
        ideal = Ideal(2)
        for key in ((5, 0), (-5, 1), (5, 3), (HIGH, 4), (-HIGH, 10 ** 9), (5, 2)):
            self.assertIsNone(ideal.push(1, key))
        keys = ((-HIGH, 10 ** 9), (-5, 1), (5, 0), (5, 2), (5, 3), (HIGH, 4))
        self.assertEqual(everything(ideal, 2), [(), keys])
        for key in keys:
            self.assertEqual(ideal.due(1), key)
            self.assertEqual(ideal.let_go(1), key)
        self.assertIsNone(ideal.due(1))
        self.assertEqual(everything(ideal, 2), [(), ()])

    def test_ahead_of_keys_held_or_not(self):
        ideal = Ideal(1)
        for key in ((0, 1), (0, 3), (2, 0)):
            ideal.push(0, key)
        for key, many in (((0, 0), 0), ((0, 1), 0), ((0, 2), 1), ((0, 3), 1), ((0, 4), 2), ((1, 1), 2), ((2, 0), 2),
                          ((2, 1), 3), ((-HIGH, 0), 0), ((HIGH, 10 ** 9), 3)):
            self.assertEqual(ideal.ahead(0, key), many)
        self.assertEqual(Ideal(1).ahead(0, (0, 0)), 0)

    def test_nothing_there(self):
        ideal = Ideal(2)
        ideal.push(0, (0, 0))
        check_raises(self, NothingThere, {}, ideal.let_go, 1)
        ideal.let_go(0)
        check_raises(self, NothingThere, {}, ideal.let_go, 0)

    def test_one_key_of_a_cell_at_an_output(self):
        ideal = Ideal(2)
        ideal.push(0, (1, 7))
        ideal.push(0, (2, 8))
        for rank in (0, 1, 2, HIGH):
            check_raises(self, KeyThere, {}, ideal.push, 0, (rank, 7))
        ideal.push(1, (1, 7))
        self.assertEqual(everything(ideal, 2), [((1, 7), (2, 8)), ((1, 7),)])
        ideal.let_go(0)
        ideal.push(0, (3, 7))
        self.assertEqual(ideal.held(0), ((2, 8), (3, 7)))

    def test_outputs_from_1_to_12(self):
        for outputs in (1, 12):
            ideal = Ideal(outputs)
            ideal.push(outputs - 1, (0, 0))
            check_raises(self, NoOutput, {}, ideal.push, outputs, (0, 0))
        for thing in not_integers_from(1, 12):
            check_raises(self, NoLines, {}, Ideal, thing)

    def test_no_output(self):
        ideal = Ideal(3)
        ideal.push(0, (0, 0))
        for thing in not_integers_from(0, 2):
            for call in (ideal.due, ideal.let_go, ideal.held):
                check_raises(self, NoOutput, {}, call, thing)
            for call in (ideal.push, ideal.ahead):
                check_raises(self, NoOutput, {}, call, thing, (0, 1))
                check_raises(self, NoOutput, {}, call, thing, None)
        self.assertEqual(everything(ideal, 3), [((0, 0),), (), ()])

    def test_no_key(self):
        ideal = Ideal(1)
        ideal.push(0, (0, 0))
        for thing in wrong_keys():
            check_raises(self, NoKey, {}, ideal.push, 0, thing)
            check_raises(self, NoKey, {}, ideal.ahead, 0, thing)
        check_raises(self, NoKey, {}, ideal.push, 0, (HIGH + 1, 0))
        self.assertEqual(ideal.held(0), ((0, 0),))

    def test_copies_go_on_apart(self):
        ideal = Ideal(2)
        ideal.push(0, (1, 1))
        other = ideal.copy()
        self.assertIs(other.__class__, Ideal)
        self.assertEqual(everything(other, 2), [((1, 1),), ()])
        self.assertFalse(ideal == other)
        other.push(0, (0, 0))
        ideal.push(1, (5, 5))
        other.let_go(0)
        other.let_go(0)
        self.assertEqual(everything(ideal, 2), [((1, 1),), ((5, 5),)])
        self.assertEqual(everything(other, 2), [(), ()])
        check_raises(self, NoOutput, {}, other.due, 2)

    def test_equal_to_itself_alone(self):
        ideal = Ideal(1)
        self.assertTrue(ideal == ideal)
        for thing in [*odd_things(), Ideal(1)]:
            self.assertFalse(ideal == thing)

    def test_random_steps_as_sorted_lists_do(self):
        chance = random.Random(3)
        for outputs in (1, 2, 12):
            ideal, rows = Ideal(outputs), [[] for _ in range(outputs)]
            for number in range(400):
                output = chance.randrange(outputs)
                key = (chance.randint(-3, 3), number)
                if chance.random() < 0.6:
                    ideal.push(output, key)
                    rows[output] = sorted([*rows[output], key])
                elif rows[output]:
                    self.assertEqual(ideal.let_go(output), rows[output].pop(0))
                self.assertEqual(ideal.held(output), tuple(rows[output]))
                self.assertEqual(ideal.due(output), rows[output][0] if rows[output] else None)
                self.assertEqual(ideal.ahead(output, key), len([each for each in rows[output] if each < key]))


class Runs(unittest.TestCase):
    def test_nothing_comes(self):
        self.assertEqual(ideal_run(1, 1, (), {}), [])
        self.assertEqual(ideal_beats(1, 1, (), {}), {})
        self.assertEqual(ideal_run(2, 1, ((None, None),) * 200, {}), [(None, None)] * 200)
        self.assertEqual(ideal_beats(2, 1, ((None, None),), {}), {})

    def test_equal_ranks_leave_by_numbers(self):
        arrivals = ((A, A, A), (None, None, None))
        ranks = {(0, 0): 1, (1, 0): 1, (2, 0): 1}
        self.assertEqual(ideal_run(3, 1, arrivals, ranks), [(0, None, None), (1, None, None), (2, None, None)])

    def test_lesser_ranks_leave_first_even_if_they_come_later(self):
        arrivals = ((A, A), (None, A), (None, None))
        ranks = {(0, 0): HIGH, (1, 0): 0, (2, 0): -HIGH}
        self.assertEqual(ideal_run(2, 1, arrivals, ranks), [(1, None), (2, None), (0, None)])
        self.assertEqual(ideal_beats(2, 1, arrivals, ranks), {(1, 0): 0, (2, 0): 1, (0, 0): 2})

    def test_copies_of_a_cell_leave_apart(self):
        arrivals = (((0, 0, (0, 1)), B),)
        ranks = {(0, 0): 0, (0, 1): 1, (1, 1): 0}
        self.assertEqual(ideal_run(2, 2, arrivals, ranks), [(0, 1), (None, 0)])
        self.assertEqual(ideal_beats(2, 2, arrivals, ranks), {(0, 0): 0, (1, 1): 0, (0, 1): 1})

    def test_beats_behind_the_arrivals(self):
        arrivals = (((0, 0, (0, 1, 2)),) * 12,) * 200
        ranks = {(number, output): 0 for number in range(2400) for output in range(3)}
        run = ideal_run(12, 3, arrivals, ranks)
        self.assertEqual(run, [(number,) * 3 + (None,) * 9 for number in range(2400)])
        beats = ideal_beats(12, 3, arrivals, ranks)
        self.assertEqual(beats, {(number, output): number for number, output in ranks})

    def test_random_runs_as_told_anew(self):
        chance = random.Random(5)
        for lines, most, beats in [(1, 1, 3), (1, 3, 4), (2, 1, 6), (3, 2, 5), (5, 3, 8), (12, 3, 6)] * 5:
            arrivals = random_arrivals(chance, lines, most, beats)
            wanted = all_copies(lines, most, arrivals)
            chance.shuffle(wanted)
            ranks = {copy: chance.randint(-2, 2) for copy in wanted}
            kept = dict(ranks)
            run = ideal_run(lines, most, arrivals, ranks)
            self.assertEqual(run, plain_run(lines, arrivals, ranks))
            self.assertLessEqual(len(run), beats + len(ranks))
            left = ideal_beats(lines, most, arrivals, ranks)
            self.assertEqual(sorted(left), sorted(ranks))
            for (number, output), beat in left.items():
                self.assertEqual(run[beat][output], number)
            self.assertEqual(list(ranks.items()), list(kept.items()))

    def test_step_of_order(self):
        chance = random.Random(6)
        arrivals = random_arrivals(chance, 4, 2, 10)
        ranks = {copy: chance.randint(0, 3) for copy in all_copies(4, 2, arrivals)}
        came = {cell.came_as: beat for beat, row in enumerate(cells(4, 2, arrivals)) for cell in row}
        left = ideal_beats(4, 2, arrivals, ranks)
        for one in ranks:
            for other in ranks:
                both_there = max(came[one[0]], came[other[0]]) <= min(left[one], left[other])
                if one != other and one[1] == other[1] and both_there:
                    self.assertEqual(left[one] < left[other], (ranks[one], one[0]) < (ranks[other], other[0]))

    def test_results_are_new(self):
        arrivals, ranks = ((A,),), {(0, 0): 0}
        run, left = ideal_run(1, 1, arrivals, ranks), ideal_beats(1, 1, arrivals, ranks)
        run.clear()
        left.clear()
        self.assertEqual(ideal_run(1, 1, arrivals, ranks), [(0,)])
        self.assertEqual(ideal_beats(1, 1, arrivals, ranks), {(0, 0): 0})
        self.assertEqual(ranks, {(0, 0): 0})


class WrongRuns(unittest.TestCase):
    def check(self, error, fields, *args):
        for call in (ideal_run, ideal_beats):
            check_raises(self, error, fields, call, *args)

    def test_lines_most_and_arrivals_in_their_order(self):
        for thing in not_integers_from(1, 12):
            self.check(NoLines, {}, thing, 4, None, None)
        for thing in not_integers_from(1, 3):
            self.check(NoMost, {}, 1, thing, None, None)
        for thing in (None, [], ((None,),) * 201):
            self.check(BadArrivals, {"at": -1}, 1, 1, thing, None)
        self.check(BadArrivals, {"at": 1}, 1, 1, ((None,), ()), None)
        self.check(BadArrivals, {"at": (1, 0)}, 1, 1, ((None,), (0,)), None)

    def test_no_dict(self):
        for thing in odd_things():
            if not isinstance(thing, dict):
                self.check(BadRanks, {"which": None}, 1, 1, (), thing)

    def test_the_least_copy_without_a_rank(self):
        arrivals = (((0, 0, (0, 1)), B),)
        ranks = {(1, 1): 0, (0, 1): 0, (0, 0): 0}
        self.check(BadRanks, {"which": (0, 0)}, 2, 2, arrivals, {})
        self.check(BadRanks, {"which": (0, 0)}, 2, 2, arrivals, {(1, 1): None, (0, 1): None})
        for copy in ranks:
            without = {other: rank for other, rank in ranks.items() if other != copy}
            self.check(BadRanks, {"which": copy}, 2, 2, arrivals, without)
            for thing in not_integers_from(-HIGH, HIGH):
                self.check(BadRanks, {"which": copy}, 2, 2, arrivals, {**ranks, copy: thing})
            self.check(BadRanks, {"which": copy}, 2, 2, arrivals, {"first": 0, **without})
            for edge in (-HIGH, HIGH):
                self.assertEqual(len(ideal_beats(2, 2, arrivals, {**ranks, copy: edge})), 3)
        self.check(BadRanks, {"which": (0, 1)}, 2, 2, arrivals, {(0, 0): 0, (1, 1): "", (0, 1): []})

    def test_the_first_key_that_is_no_copy(self):
        ideal = Ideal(1)
        deep = (0,)
        for _ in range(38):
            deep = (deep,)
        keys = [0, -1, None, "", "(0, 0)", b"", (), (0,), (0, 1), (1, 0), (0, 0, 0), ("0", 0), ((0, 0),), (0, (0,)),
                (-1, 0), (0, -1), 10 ** 59, range(2), len, int, Cell, ideal, (ideal, 0), (None, 0), deep, (deep, 0)]
        for key in keys:
            for ranks in ({(0, 0): 0, key: 0}, {key: 0, (0, 0): 0}, {key: None, (0, 0): 0, "later": 0}):
                self.check(BadRanks, {"which": key}, 1, 1, ((A,),), ranks)
        self.check(BadRanks, {"which": 5}, 1, 1, (), {5: 0, 4: 0})
        self.check(BadRanks, {"which": 29999}, 1, 1, (), {number: 0 for number in range(29999, -1, -1)})

    def test_arguments_stay(self):
        ranks = {(0, 0): 0, "x": [1]}
        self.check(BadRanks, {"which": "x"}, 1, 1, ((A,),), ranks)
        self.assertEqual(list(ranks.items()), [((0, 0), 0), ("x", [1])])


if __name__ == "__main__":
    unittest.main()
