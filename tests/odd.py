"""What the tests share: things of all built-in kinds, big and deep ones, and a check of errors."""

from exactbeats.bounds import Buckets
from exactbeats.cells import Cell
from exactbeats.desk import Desk
from exactbeats.errors import FabricError, NoKey
from exactbeats.house import House
from exactbeats.ideal import Ideal
from exactbeats.packets import Gatherer
from exactbeats.planes import Laid
from exactbeats.ranks import Program, Ranker
from exactbeats.rows import Rows
from exactbeats.switch import Switch

DEEPEST = 40
MOST_PARTS = 60000


def nested(depth, make):
    thing = make(())
    for _ in range(depth - 1):
        thing = make((thing,))
    return thing


def generator():
    yield 0


def odd_things():
    """Things none of which is an integer, a dict that tells ranks, or a tuple of a form that is asked for."""
    return [
        None, True, False, "", "0", "()", "number", b"", b"\x00\x01", bytearray(b"ab"), memoryview(b"ab"),
        [], [0], [None], [[]], {}, {0: 0}, {(0, 0): 0}, {}.keys(), {0: 1}.values(), {0: 1}.items(),
        range(0), range(3), slice(0, 1), Ellipsis, NotImplemented, object(), object, int, tuple, len, odd_things,
        lambda *rest: (), generator(), iter(()), iter([]), zip(()), enumerate(()), map(len, ()), reversed([]),
        property(), staticmethod(len), ValueError("x"), NoKey(), Cell, Cell(0, 0, 0, 0, (0,)), Ideal(1),
        Program(()), Program((("rank", ("num", 1)),)), Ranker((Program(()),)), Rows(1), Switch(1, 1), Laid((1, 1), ()),
        House(1, 1, 1, 1), Gatherer(1), Desk(1, 1, 1, 1), Buckets(1, (None,)), (Program(()),) * 13, [Program(())],
        ("",), ("", ""), (None, None), (True, False), (None, None, None), ((), ()), ((), (), ()), (object(), object()),
        ([], []), ([0, 0],), ({}, {}), (Cell(0, 0, 0, 0, (0,)), 0), (0, Ideal(1)),
        nested(DEEPEST, tuple), nested(DEEPEST, list), nested(DEEPEST, lambda inner: {"k": inner}),
        (0, nested(DEEPEST - 1, tuple)), (nested(DEEPEST - 1, tuple), 0),
        (None,) * MOST_PARTS, ((),) * MOST_PARTS, [0] * MOST_PARTS, tuple(range(MOST_PARTS)), "x" * 20000,
        {number: number for number in range(MOST_PARTS // 2)},
    ]


def not_integers_from(least, greatest):
    """Things that are no integer of a range."""
    return [thing for thing in odd_things()] + [least - 1, greatest + 1, -10 ** 59, 10 ** 60 - 1]


def with_each(items, things):
    """The tuples that items become with a thing in the place of one of them, place by place."""
    return [items[:place] + (thing,) + items[place + 1:] for place in range(len(items)) for thing in things]


def check_judged(case, judge, args, right):
    """That of odd things, and of right ones, a judge takes just the right ones; it gives flags."""
    for thing in odd_things():
        if not [each for each in right if each.__class__ is thing.__class__ and each == thing]:
            case.assertIs(judge(*args, thing), False)
    for thing in right:
        case.assertIs(judge(*args, thing), True)


def check_raises(case, error, fields, call, *args):
    """That a call raises an error of just this class, with just these fields."""
    with case.assertRaises(ValueError) as caught:
        call(*args)
    raised = caught.exception
    case.assertIs(raised.__class__, error)
    case.assertIsInstance(raised, FabricError)
    case.assertEqual(vars(raised), fields)
    for name, field in fields.items():
        case.assertIs(getattr(raised, name).__class__, field.__class__)
