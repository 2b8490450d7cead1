"""Programs as texts, there and back (2.4)."""

from exactbeats.errors import BadText, NoPrograms
from exactbeats.expressions import FACTS, SIGNS, TABLES, is_expression, is_leaf, is_name
from exactbeats.numerals import integer_in
from exactbeats.ranks import MOST_PROGRAMS, Program, check_programs

KEEP_MARK = "out:"
OWN_MARK = "own:"


def leaf_text(leaf):
    word, told = leaf
    if word == "keep":
        return f"{KEEP_MARK}{told}"
    if word == "own":
        return f"{OWN_MARK}{told}"
    return f"{told}"


def expression_text(expression):
    word = expression[0]
    if word == "not":
        return f"(not {expression_text(expression[1])})"
    if word in SIGNS:
        return f"({expression_text(expression[1])} {word} {expression_text(expression[2])})"
    return leaf_text(expression)


def block_lines(block):
    """The lines of the statements of a block."""
    lines = []
    for statement in block:
        lines.extend(statement_lines(statement))
    return lines


def statement_lines(statement):
    word = statement[0]
    if word == "rank":
        return [f"rank {expression_text(statement[1])}"]
    if word != "if":
        return [f"{word} {statement[1]} {expression_text(statement[2])}"]
    lines = [f"if {expression_text(statement[1])} do"] + block_lines(statement[2])
    if statement[3]:
        lines = lines + ["else"] + block_lines(statement[3])
    return lines + ["end"]


def settings_text(programs):
    """Programs as a text."""
    check_programs(1, MOST_PROGRAMS, programs)
    lines = []
    for output, program in enumerate(programs):
        lines.append(f"out {output}")
        lines.extend(block_lines(program.block))
    return "".join([f"{line}\n" for line in lines])


def leaf_in(word):
    """The expression without others in it that a word tells, None if it tells none."""
    number = integer_in(word)
    if number is not None:
        leaf = ("num", number)
    elif word in FACTS:
        leaf = ("fact", word)
    elif word.startswith(KEEP_MARK):
        leaf = ("keep", word.removeprefix(KEEP_MARK))
    elif word.startswith(OWN_MARK):
        leaf = ("own", word.removeprefix(OWN_MARK))
    else:
        leaf = ("let", word)
    return leaf if is_leaf(leaf) else None


def between_brackets(items):
    """The expression that the items between two brackets make, None if they make none: items are expressions, and
    the words that are none."""
    made = None
    if len(items) == 2:
        made = (items[0], items[1])
    elif len(items) == 3:
        made = (items[1], items[0], items[2])
    return made if is_expression(made) else None


def expression_in(text):
    """The expression that a text tells, None if it tells none."""
    # What is still between brackets that are not closed, the outermost ahead: no recursion, as texts may be deep.
    levels = [[]]
    for word in text.replace("(", "( ").replace(")", " )").split(" "):
        if word == "(":
            levels.append([])
        elif word == ")":
            made = between_brackets(levels.pop())
            if made is None or not levels:
                return None
            levels[-1].append(made)
        else:
            leaf = leaf_in(word)
            levels[-1].append(word if leaf is None else leaf)
    if len(levels) > 1 or len(levels[0]) > 1:
        return None
    told = levels[0][0]
    return told if is_expression(told) else None


def condition_in(line):
    """The expression of a line that begins an if, None for any other line."""
    if not line.startswith("if ") or not line.endswith(" do"):
        return None
    return expression_in(line[3:-3])


def statement_in(line):
    """The statement, other than an if, that a line tells, None if it tells none."""
    word, _, told = line.partition(" ")
    if word == "rank":
        expression = expression_in(told)
        return None if expression is None else ("rank", expression)
    name, _, text = told.partition(" ")
    expression = expression_in(text)
    if word not in TABLES or not is_name(name) or expression is None:
        return None
    return (word, name, expression)


class Opened:
    """An if that is read, and has no end yet."""

    def __init__(self, condition):
        self.condition = condition
        self.first = []
        # None up to its else.
        self.other = None

    def statement(self):
        other = [] if self.other is None else self.other
        return ("if", self.condition, tuple(self.first), tuple(other))


class Reader:
    """What the lines of settings told up to now: the blocks of programs, and the ifs that have no end yet."""

    def __init__(self):
        self.blocks = []
        self.ifs = []

    def _put(self, statement):
        """Puts a statement into the innermost block."""
        if not self.ifs:
            self.blocks[-1].append(statement)
        elif self.ifs[-1].other is None:
            self.ifs[-1].first.append(statement)
        else:
            self.ifs[-1].other.append(statement)

    def _takes_mark(self, line):
        """Takes an else, or an end; returns whether it can stand here."""
        if not self.ifs:
            return False
        if line == "end":
            self._put(self.ifs.pop().statement())
            return True
        if self.ifs[-1].other is not None:
            return False
        self.ifs[-1].other = []
        return True

    def takes(self, line):
        """Takes a line; returns whether it has the form of one that can stand here."""
        if line == f"out {len(self.blocks)}" and not self.ifs:
            self.blocks.append([])
            return True
        if not self.blocks:
            return False
        if line in ("else", "end"):
            return self._takes_mark(line)
        condition = condition_in(line)
        if condition is not None:
            self.ifs.append(Opened(condition))
            return True
        statement = statement_in(line)
        if statement is not None:
            self._put(statement)
        return statement is not None


def read_settings(text):
    """The programs that a text tells."""
    if not isinstance(text, str):
        raise BadText(0)
    lines = text.split("\n")
    rest = lines.pop()
    reader = Reader()
    for number, line in enumerate(lines, start=1):
        if not reader.takes(line):
            raise BadText(number)
    if rest != "" or reader.ifs or not lines:
        raise BadText(len(lines) + 1)
    programs = tuple([Program(tuple(block)) for block in reader.blocks])
    if len(programs) > MOST_PROGRAMS:
        raise NoPrograms(-1)
    return programs
