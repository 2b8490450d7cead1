"""The desk and its tales: 15.2."""

import unittest

from exactbeats.desk import Desk, tale
from exactbeats.errors import (FabricError, FewPlanes, NoMost, NoNumber, NoPhase, NoPlane, NoPlanes, NoPrograms, NoSaying,
                               NoSizes, NoTale)
from exactbeats.house import House
from exactbeats.ranks import Program
from exactbeats.ranktexts import settings_text
from exactbeats.texts import arrivals_text
from tests.drawn import Drawn, drawn_arrivals_of_beat
from tests.odd import check_raises, not_integers_from, odd_things
from tests.test_house import COUNT, HELD
from tests.test_ranks import drawn_block

A = (0, 0, (0,))
NO_NUMBERS = ("", " ", "00", "01", "-1", "+1", "-0", "1.", "1.0", "a", "1a", "1 ", " 1", "1 1", "1_0", "1;", "1,", "0x1",
              "1" * 20, "1" * 19000, "1\n", "\t1", "one", chr(0x661), chr(0xb2), "1" + chr(0x661))


def settings_line(programs):
    return "settings " + settings_text(programs).replace("\n", ";")


def beat_line(arrivals):
    return "beat " + arrivals_text((arrivals,))[:-1]


def state(desk, lines):
    """All that a desk tells."""
    told = [desk.tell(word) for word in ("planes", "way", "count")]
    return told + [desk.tell(f"{word} {number}") for word in ("row", "store", "held", "slack") for number in range(lines)]


def listed(items):
    return " ".join([str(item) for item in items]) or "none"


def told_of(house):
    """What a desk tells of a house, told anew."""
    told = [listed(house.whole())]
    told.append(listed([f"{line}>{plane}>{output}" for line, output, _, plane in (house.ways() or [()])[-1]]))
    told.append("{} {} {}".format(*house.counts()))
    told += [listed([f"{key[1]}>{output}" for output, key in row]) for row in house.standing()]
    told += [listed([number for _, number in keys]) for keys in house.stores()]
    told += [listed([number for _, number in keys]) for keys in house.ideal_rows()]
    return told + [listed(slacks) for slacks in house.slacks()]


def sent(left):
    return " ".join(["-" if cell is None else str(cell) for cell in left])


class Lines(unittest.TestCase):
    def test_a_new_desk(self):
        self.assertEqual(state(Desk(2, 1, 1, 3), 2), ["0 1 2", "none", "0 0 0"] + ["none"] * 8)

    def test_beats_and_what_is_told_then(self):
        desk = Desk(3, 1, 2, 3)
        self.assertEqual(desk.tell("beat 0.0>0,1 1.2>0,1 2.3>0,1"), "0 0 -")
        house = House(3, 1, 2, 3)
        house.beat(((0, 0, (0, 1)), (1, 2, (0, 1)), (2, 3, (0, 1))))
        self.assertEqual(state(desk, 3), told_of(house))
        self.assertEqual(desk.tell("count"), "3 2 4")
        self.assertEqual(desk.tell("held 0"), "1 2")
        self.assertEqual(desk.tell("held 2"), "none")
        waiting = [desk.tell(f"row {line}") for line in range(3)]
        stored = [desk.tell(f"store {output}") for output in range(3)]
        copies = [copy for told in waiting if told != "none" for copy in told.split(" ")]
        copies += [f"{cell}>{output}" for output in range(3) for cell in stored[output].split(" ") if cell != "none"]
        self.assertEqual(sorted(copies), ["1>0", "1>1", "2>0", "2>1"])
        self.assertEqual([desk.tell("beat - - -") for _ in range(3)], ["1 1 -", "2 2 -", "- - -"])
        self.assertEqual(desk.tell("count"), "3 6 0")

    def test_rows_as_they_stand(self):
        desk, house = Desk(2, 3, 3, 2), House(2, 3, 3, 2)
        full = ((0, 0, (0, 1, 2)),) * 6
        for _ in range(4):
            self.assertEqual(desk.tell(beat_line(full)), sent(house.beat(full)))
            self.assertEqual(state(desk, 6), told_of(house))
        self.assertTrue(any([" " in desk.tell(f"row {line}") for line in range(6)]))
        self.assertTrue(any([" " in desk.tell(f"store {line}") for line in range(6)]))
        for line in range(6):
            if not house.standing()[line]:
                self.assertEqual(desk.tell(f"slack {line}"), "none")
                continue
            self.assertEqual(len(desk.tell(f"slack {line}").split(" ")), len(house.standing()[line]))

    def test_runs(self):
        desk = Desk(2, 1, 1, 2)
        desk.tell("beat 0.0>0 0.0>0")
        desk.tell("beat 0.0>0 0.0>0")
        self.assertEqual(desk.tell("held 0"), "2 3")
        self.assertEqual(desk.tell("run 1"), "2 -")
        self.assertEqual(desk.tell("run 1"), "3 -")
        self.assertEqual(desk.tell("run 1"), "- -")
        self.assertEqual(desk.tell("run 400"), "- -")
        for number in (0, 401, 10 ** 18, 9 * 10 ** 18):
            check_raises(self, NoNumber, {}, desk.tell, f"run {number}")
        # So many beats: the programs know the beat.
        desk.tell(settings_line((HELD, HELD)))
        desk.tell("beat 0.0>0 0.0>0")
        self.assertEqual(desk.tell("held 0"), "4")
        house = House(2, 1, 1, 2)
        for arrivals in ((A, A), (A, A)) + ((None, None),) * 403:
            house.beat(arrivals)
        house.turn((HELD, HELD))
        house.beat((A, A))
        self.assertEqual(state(desk, 2), told_of(house))

    def test_a_run_is_as_many_beats(self):
        for many in (1, 2, 3, 7):
            desk, other = Desk(2, 1, 1, 2), Desk(2, 1, 1, 2)
            for each in (desk, other):
                for _ in range(4):
                    each.tell("beat 0.0>0 0.0>0")
            told = [other.tell("beat - -") for _ in range(many)]
            self.assertEqual(desk.tell(f"run {many}"), told[-1])
            self.assertEqual(state(desk, 2), state(other, 2))

    def test_settings(self):
        desk = Desk(2, 1, 1, 2)
        self.assertEqual(desk.tell("settings out 0;rank kind;out 1;"), "ok")
        self.assertEqual(desk.tell("beat 0.5>0 0.3>0"), "1 -")
        self.assertEqual(desk.tell("settings out 0;keep n (out:n - 1);if (out:n < 0) do;rank out:n;end;out 1;"), "ok")
        self.assertEqual(desk.tell("beat 0.0>0 0.0>0"), "3 -")
        for text in ("", "out 0;", "out 0;out 1;out 2;", "out 0;" * 2, "out 0;out 1", "out 0;out 1;;", ";out 0;out 1;",
                     "out 0; out 1;", "out 0\nout 1\n", "out 0;out 1\n", "out 0;\nout 1;", "out 0;out 1;\n",
                     "out 0;rank;out 1;", "out 0;if 1 do;out 1;", "x", " out 0;out 1;",
                     "out 0;out 1;" + "rank 1;" * 61, "out 0;out 1;" + "if 1 do;" * 4 + "end;" * 4,
                     "".join([f"out {output};" for output in range(13)])):
            before = state(desk, 2)
            right = text in ("out 0;", "out 0;out 1;out 2;")
            error, fields = (NoPrograms, {"output": -1}) if right else (NoSaying, {})
            check_raises(self, error, fields, desk.tell, "settings " + text)
            self.assertEqual(state(desk, 2), before)
        check_raises(self, NoSaying, {}, desk.tell, "settings")
        check_raises(self, NoSaying, {}, desk.tell, "settings  out 0;out 1;")
        # Those of before are in force.
        self.assertEqual(desk.tell("beat 0.0>0 0.0>0"), "5 -")

    def test_planes(self):
        desk = Desk(2, 2, 1, 4)
        self.assertEqual([desk.tell(line) for line in ("down 0", "down 2", "planes", "up 0", "planes")],
                         ["ok", "ok", "1 3", "ok", "0 1 3"])
        for line in ("up 0", "up 1", "up 4", "up 12", "down 2", "down 4", "down 12", "down 9999999999999999999"):
            check_raises(self, NoPlane, {}, desk.tell, line)
        desk.tell("down 3")
        for line in ("down 0", "down 1"):
            check_raises(self, FewPlanes, {}, desk.tell, line)
        self.assertEqual(desk.tell("planes"), "0 1")

    def test_ways_of_the_last_phase_or_try(self):
        desk = Desk(1, 2, 1, 1)
        self.assertEqual([desk.tell(line) for line in ("way", "beat 1.0>1 1.0>0", "way")], ["none", "1 0", "none"])
        self.assertEqual([desk.tell(line) for line in ("beat 1.0>0 1.0>0", "way", "run 1", "way")],
                         ["2 -", "1>0>0", "3 -", "none"])
        self.assertEqual([desk.tell(line) for line in ("break 1", "break 1", "beat 1.0>1 1.0>1", "way")],
                         ["ok", "ok", "- 4", "1>0>1"])
        desk, house = Desk(2, 2, 3, 3), House(2, 2, 3, 3)
        full = ((0, 0, (0, 1, 2)),) * 4
        told = set()
        for _ in range(6):
            desk.tell(beat_line(full))
            house.beat(full)
            told.add(desk.tell("way"))
            wishes = [quad.split(">") for quad in desk.tell("way").split(" ")]
            self.assertEqual([(int(line), int(output)) for line, _, output in wishes],
                             [(line, output) for line, output, _, _ in house.ways()[-1]])
            self.assertEqual(desk.tell("way"), told_of(house)[1])
        self.assertTrue(any([" " in each for each in told]))

    def test_no_phase(self):
        desk = Desk(1, 2, 2, 1)
        for phase in (0, 1, 2):
            self.assertEqual(desk.tell(f"break {phase}"), "ok")
        for phase in (3, 4, 10 ** 18):
            check_raises(self, NoPhase, {}, desk.tell, f"break {phase}")

    def test_no_number(self):
        for n, r in ((1, 1), (2, 1), (3, 4)):
            desk = Desk(n, r, 1, n)
            for word in ("row", "store", "held", "slack"):
                for number in range(n * r):
                    self.assertEqual(desk.tell(f"{word} {number}"), "none")
                for number in (n * r, 12, 13, 10 ** 18, 9999999999999999999):
                    check_raises(self, NoNumber, {}, desk.tell, f"{word} {number}")

    def test_no_sayings(self):
        desk = Desk(2, 1, 1, 2)
        desk.tell("beat 0.0>0 0.0>0")
        before = state(desk, 2)
        for thing in odd_things():
            check_raises(self, NoSaying, {}, desk.tell, thing)
        words = ("run", "down", "up", "break", "row", "store", "held", "slack")
        wrong = [f"{word} {number}" for word in words for number in NO_NUMBERS] + list(words)
        wrong += [f" {word} 1" for word in words] + [f"{word.upper()} 1" for word in words] + [f"{word}1" for word in words]
        for word in ("planes", "way", "count"):
            wrong += [f"{word} ", f" {word}", f"{word} 0", f"{word}\n", word.upper(), f"{word};", f"{word} {word}"]
        wrong += ["beat", "beat ", "beat -", "beat - - -", "beat  - -", "beat - - ", "beat -  -", "beat - -\n", "beat - -;",
                  "beat\n- -", "beat - -\n- -", "beat 0.0>2 -", "beat 0.0>0,1 -", "beat 0.0> -", "beat 00.0>0 -",
                  "beat 100.0>0 -", "beat 0.8>0 -", "beat None None", "beat none", "Beat - -", "bea - -", "beats - -",
                  "beat 0.0>0 0.0>0 x", "0.0>0 0.0>0", "- -", "", " ", "\n", ";", "run 1;run 1", "run 1\nrun 1", "none",
                  "ok", "whole", "ways", "counts", "tell count", "standing", "copy", "turn", "lose 0", "back 0", "broken 0",
                  "x" * 20000, b"count", ["count"], ("count",)]
        for line in wrong:
            check_raises(self, NoSaying, {}, desk.tell, line)
        self.assertEqual(state(desk, 2), before)
        self.assertEqual(desk.tell("run 1"), "1 -")

    def test_errors_of_making(self):
        for call in (Desk, lambda *args: tale(*args, None)):
            for thing in not_integers_from(1, 12):
                check_raises(self, NoSizes, {}, call, thing, 1, None, None)
                check_raises(self, NoSizes, {}, call, 1, thing, None, None)
            check_raises(self, NoSizes, {}, call, 7, 2, None, None)
            for thing in not_integers_from(1, 3):
                check_raises(self, NoMost, {}, call, 2, 2, thing, None)
            for thing in not_integers_from(2, 12):
                check_raises(self, NoPlanes, {}, call, 2, 2, 1, thing)

    def test_equal_to_itself_alone(self):
        desk = Desk(1, 1, 1, 1)
        self.assertTrue(desk == desk)
        for thing in [*odd_things(), Desk(1, 1, 1, 1)]:
            self.assertFalse(desk == thing)


class Tales(unittest.TestCase):
    def test_small_ones(self):
        told = ["0 -", "2 1 1", "1 -", "0"]
        lines = ["beat 0.0>0 0.0>0", "count", "run 1", "planes"]
        self.assertEqual(tale(1, 2, 1, 1, lines), told)
        self.assertEqual(tale(1, 2, 1, 1, tuple(lines)), told)
        self.assertEqual(lines, ["beat 0.0>0 0.0>0", "count", "run 1", "planes"])
        self.assertEqual((tale(1, 1, 1, 1, []), tale(1, 1, 1, 1, ())), ([], []))

    def test_errors_are_told_by_their_names(self):
        lines = ["x", None, 5, "count", "run 0", "down 5", "down 0", "up 0", "up 5", "break 2", "break 1", "settings",
                 "settings out 0;", "row 2", "store 2", "held 9", "slack 2", "beat - x", "count", "", "run 401"]
        self.assertEqual(tale(1, 2, 1, 1, lines), [
            "(NoSaying)", "(NoSaying)", "(NoSaying)", "0 0 0", "(NoNumber)", "(NoPlane)", "(FewPlanes)", "(NoPlane)",
            "(NoPlane)", "(NoPhase)", "ok", "(NoSaying)", "(NoPrograms)", "(NoNumber)", "(NoNumber)", "(NoNumber)",
            "(NoNumber)", "(NoSaying)", "0 0 0", "(NoSaying)", "(NoNumber)"])
        self.assertEqual(tale(1, 1, 1, 1, odd_things()), ["(NoSaying)"] * len(odd_things()))

    def test_no_tales(self):
        for thing in odd_things():
            if not isinstance(thing, (list, tuple)):
                check_raises(self, NoTale, {}, tale, 1, 1, 1, 1, thing)
        for thing in ("count", {"count": 1}, None, iter(["count"])):
            check_raises(self, NoTale, {}, tale, 2, 2, 1, 2, thing)

    def test_lists_are_new(self):
        self.assertIsNot(tale(1, 1, 1, 1, []), tale(1, 1, 1, 1, []))
        lines = ["count"]
        tale(1, 1, 1, 1, lines).append("x")
        self.assertEqual(lines, ["count"])


class Lives(unittest.TestCase):
    """Lives of desks beside those of houses."""

    def test_lives(self):
        drawn = Drawn(141)
        for n, r in [(1, 1), (2, 1), (1, 3), (2, 2), (3, 2), (4, 3), (12, 1)]:
            for most in (1, 3):
                planes = n + drawn.below(13 - n)
                desk, house = Desk(n, r, most, planes), House(n, r, most, planes)
                lines, told = [], []
                for _ in range(40):
                    line, does = self.saying(drawn, n * r, most)
                    lines.append(line)
                    try:
                        told.append(does(house))
                    except FabricError as error:
                        told.append(f"({error.__class__.__name__})")
                        check_raises(self, error.__class__, vars(error), desk.tell, line)
                    else:
                        self.assertEqual(desk.tell(line), told[-1])
                    self.assertEqual(state(desk, n * r), told_of(house))
                self.assertEqual(tale(n, r, most, planes, lines), told)

    def saying(self, drawn, lines, most):
        """A line, and what it does to a house and then tells."""
        what = drawn.below(8)
        if what < 3:
            arrivals = drawn_arrivals_of_beat(drawn, lines, most, 3, 4)
            return beat_line(arrivals), lambda house: sent(house.beat(arrivals))
        number = drawn.below(7)
        if what == 3:
            programs = tuple([Program(drawn_block(drawn, 2)) for _ in range(lines if number else lines + 1)])[:12]
            return settings_line(programs), lambda house: house.turn(programs) or "ok"
        if what == 4:
            return f"down {number}", lambda house: house.lose(number) or "ok"
        if what == 5:
            return f"up {number}", lambda house: house.back(number) or "ok"
        if what == 6:
            return f"break {number}", lambda house: house.broken(number) or "ok"
        return f"run {number + 1}", lambda house: [sent(house.beat((None,) * lines)) for _ in range(number + 1)][-1]


if __name__ == "__main__":
    unittest.main()
