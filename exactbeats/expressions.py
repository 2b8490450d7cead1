"""Expressions of the tongue for ranks: which things are some, and what they come to (2.1)."""

from exactbeats.ideal import GREATEST_RANK, is_rank
from exactbeats.kinds import is_tuple_of

LETTERS = "abcdefghijklmnopqrstuvwxyz"
LONGEST_NAME = 8
TABLES = ("let", "keep", "own")
WORDS = ("let", "keep", "own", "if", "else", "do", "end", "rank", "out", "min", "max", "mod", "and", "or", "not")
FACTS = ("beat", "line", "output", "stream", "kind", "copies", "held")
DEEPEST = 6
MOST_PARTS = 30


def plus(a, b):
    return a + b


def minus(a, b):
    return a - b


def times(a, b):
    return a * b


def divided(a, b):
    return None if b == 0 else a // b


def left_over(a, b):
    return None if b == 0 else a % b


def lesser(a, b):
    return min(a, b)


def greater(a, b):
    return max(a, b)


def is_less(a, b):
    return 1 if a < b else 0


def is_same(a, b):
    return 1 if a == b else 0


def both(a, b):
    return 1 if a != 0 and b != 0 else 0


def either(a, b):
    return 1 if a != 0 or b != 0 else 0


SIGNS = {"+": plus, "-": minus, "*": times, "/": divided, "mod": left_over, "min": lesser, "max": greater,
         "<": is_less, "=": is_same, "and": both, "or": either}


def is_name(thing):
    """Whether a thing is a name that a program may give."""
    if not isinstance(thing, str) or not 1 <= len(thing) <= LONGEST_NAME:
        return False
    return thing not in WORDS and thing not in FACTS and all([sign in LETTERS for sign in thing])


def is_leaf(thing):
    """Whether a pair with a word ahead is an expression without others in it."""
    word, told = thing
    if word == "num":
        return is_rank(told)
    if word == "fact":
        return isinstance(told, str) and told in FACTS
    return word in TABLES and is_name(told)


def has_sides(thing):
    """Whether a tuple with a word ahead has the form of a not, or of a sign between two sides."""
    return (thing[0] == "not" and len(thing) == 2) or (thing[0] in SIGNS and len(thing) == 3)


def parts_of(thing, depth):
    """How many parts an expression has that is at most so deep; 0 for what is none."""
    if depth == 0 or not isinstance(thing, tuple) or not thing or not isinstance(thing[0], str):
        return 0
    if is_tuple_of(2, thing) and is_leaf(thing):
        return 1
    if not has_sides(thing):
        return 0
    parts = [parts_of(side, depth - 1) for side in thing[1:]]
    return 0 if 0 in parts else 1 + sum(parts)


def is_expression(thing):
    return 1 <= parts_of(thing, DEEPEST) <= MOST_PARTS


def reckoned(word, sides):
    """What a sign, or a not, makes of its sides, None if that is wrong."""
    if word == "not":
        return 1 if sides[0] == 0 else 0
    action = SIGNS[word]
    number = action(sides[0], sides[1])
    return None if number is None or abs(number) > GREATEST_RANK else number


def reckon(expression, facts, tables):
    """What an expression comes to, None if it is wrong: tables holds the numbers of let, keep and own."""
    word, told = expression[:2]
    if word == "num":
        return told
    if word == "fact":
        return facts[told]
    if word in tables:
        return tables[word].get(told, 0)
    # Both sides always: what is wrong in one is wrong, even if the other one would settle it.
    sides = [reckon(side, facts, tables) for side in expression[1:]]
    return None if None in sides else reckoned(word, sides)
