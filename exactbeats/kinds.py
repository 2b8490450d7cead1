"""The kinds of plain values: integers, numbers, tuples, pairs and lots (0.2)."""


def is_integer(thing):
    # For Python a flag is an int, too; the document counts it as none.
    return isinstance(thing, int) and not isinstance(thing, bool)


def is_integer_from(least, greatest, thing):
    return is_integer(thing) and least <= thing <= greatest


def is_number_below(bound, thing):
    return is_integer_from(0, bound - 1, thing)


def is_tuple_of(many, thing):
    return isinstance(thing, tuple) and len(thing) == many


def is_lot_below(bound, thing):
    """Whether a thing is an ascending tuple of unlike numbers below a bound."""
    if not isinstance(thing, tuple):
        return False
    last = -1
    for item in thing:
        if not is_integer_from(last + 1, bound - 1, item):
            return False
        last = item
    return True


def is_pair_below(bound, thing):
    """Whether a thing is a pair of numbers below a bound."""
    return is_tuple_of(2, thing) and is_number_below(bound, thing[0]) and is_number_below(bound, thing[1])


def all_unlike(items):
    """Whether no two of plain items are equal."""
    return len(set(items)) == len(items)
