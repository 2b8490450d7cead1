"""Statements and programs, and the ranker that runs them (2.2, 2.3)."""

from exactbeats.cells import STREAMS, Cell
from exactbeats.errors import BadProgram, NoCell, NoNumber, NoOutput, NoPrograms
from exactbeats.expressions import TABLES, is_expression, is_name, reckon
from exactbeats.ideal import GREATEST_RANK
from exactbeats.kinds import is_integer_from, is_number_below, is_tuple_of

DEEPEST_BLOCK = 4
MOST_STATEMENTS = 60
MOST_PROGRAMS = 12
# Of a beat, and of what is held: both are facts, so the bound is that of the numbers of the tongue.
GREATEST_FACT = 10 ** 18


def is_statement(thing, depth):
    """Whether a thing in a block so deep is a statement, but for what stands within its own blocks."""
    if not isinstance(thing, tuple) or not thing or not isinstance(thing[0], str):
        return False
    if thing[0] == "rank":
        return is_tuple_of(2, thing) and is_expression(thing[1])
    if thing[0] == "if":
        return (is_tuple_of(4, thing) and is_expression(thing[1]) and isinstance(thing[2], tuple)
                and isinstance(thing[3], tuple) and depth < DEEPEST_BLOCK)
    return thing[0] in TABLES and is_tuple_of(3, thing) and is_name(thing[1]) and is_expression(thing[2])


def first_fault(block, depth):
    """The place of the first statement in a block so deep that is none; None if all are."""
    for number, statement in enumerate(block):
        if not is_statement(statement, depth):
            return (number,)
        if statement[0] == "if":
            for side, inner in enumerate(statement[2:]):
                within = first_fault(inner, depth + 1)
                if within is not None:
                    return (number, side) + within
    return None


def how_many_statements(block):
    within = [how_many_statements(inner) for statement in block if statement[0] == "if" for inner in statement[2:]]
    return len(block) + sum(within)


class Program:
    """A block of statements that gives a rank."""

    def __init__(self, block):
        if not isinstance(block, tuple):
            raise BadProgram(())
        fault = first_fault(block, 1)
        if fault is not None:
            raise BadProgram(fault)
        if how_many_statements(block) > MOST_STATEMENTS:
            raise BadProgram(())
        self.block = block

    def __eq__(self, other):
        return isinstance(other, Program) and self.block == other.block


class Run:
    """One run of a program: its facts, its numbers, and its rank once that is told."""

    def __init__(self, facts, keep, own):
        self.facts = facts
        self.tables = {"let": {}, "keep": dict(keep), "own": dict(own)}
        self.told = None
        self.wrong = False

    def number_of(self, expression):
        """What an expression comes to; if it is wrong, so is the run, and it is over."""
        number = reckon(expression, self.facts, self.tables)
        if number is None:
            self.wrong = True
            self.told = GREATEST_RANK
        return number

    def do_block(self, block):
        for statement in block:
            if self.told is None:
                self.do(statement)

    def do(self, statement):
        word = statement[0]
        number = self.number_of(statement[2] if word in TABLES else statement[1])
        if number is None:
            return
        if word == "rank":
            self.told = number
        elif word == "if":
            self.do_block(statement[3] if number == 0 else statement[2])
        else:
            self.tables[word][statement[1]] = number


def check_programs(least, greatest, programs):
    """Raises NoPrograms unless a thing is a tuple of so many programs."""
    if not isinstance(programs, tuple) or not least <= len(programs) <= greatest:
        raise NoPrograms(-1)
    for output, program in enumerate(programs):
        if not isinstance(program, Program):
            raise NoPrograms(output)


def facts_of(beat, cell, output, held):
    return {"beat": beat, "line": cell.at_line, "output": output, "stream": cell.of_stream, "kind": cell.of_kind,
            "copies": len(cell.to_outs), "held": held}


def other_than_0(table):
    return {name: table[name] for name in sorted(table) if table[name] != 0}


class Ranker:
    """A program for each output, and the numbers that they keep from run to run."""

    def __init__(self, programs):
        check_programs(1, MOST_PROGRAMS, programs)
        self._programs = programs
        self._kept = [{} for _ in programs]
        # For each output, the numbers of each stream that had a run there.
        self._owned = [{} for _ in programs]

    def _check_output(self, output):
        if not is_number_below(len(self._programs), output):
            raise NoOutput()

    def rank(self, beat, cell, output, held):
        """The rank of a copy: the program of its output is run."""
        if not is_integer_from(0, GREATEST_FACT, beat):
            raise NoNumber()
        if not isinstance(cell, Cell):
            raise NoCell()
        self._check_output(output)
        if not is_integer_from(0, GREATEST_FACT, held):
            raise NoNumber()
        stream = cell.of_stream
        run = Run(facts_of(beat, cell, output, held), self._kept[output], self._owned[output].get(stream, {}))
        run.do_block(self._programs[output].block)
        if not run.wrong:
            self._kept[output] = run.tables["keep"]
            self._owned[output][stream] = run.tables["own"]
        return 0 if run.told is None else run.told

    def turned(self, programs):
        """Another one with these programs, and the kept numbers as they are."""
        check_programs(len(self._programs), len(self._programs), programs)
        other = Ranker(programs)
        # The tables of names never change: a run that is right puts new ones in their places.
        other._kept = list(self._kept)
        other._owned = [dict(owned) for owned in self._owned]
        return other

    def kept(self, output):
        """The numbers other than 0 that an output keeps."""
        self._check_output(output)
        return other_than_0(self._kept[output])

    def owned(self, output, stream):
        """The numbers other than 0 that an output keeps for a stream."""
        self._check_output(output)
        if not is_number_below(STREAMS, stream):
            raise NoNumber()
        return other_than_0(self._owned[output].get(stream, {}))

    def copy(self):
        """One that holds the same, and goes on apart."""
        return self.turned(self._programs)
