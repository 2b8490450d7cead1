"""The examples of the document, word for word: what stands behind `behind`, the call, what it `is`."""

import unittest

from exactbeats import (accounts, bounds, cells, colours, desk, fewer, frames, house, ideal, matchings, packets, planes,
                        ranks, ranktexts, rows, stable, strangers, switch)

MODULES = (accounts, bounds, cells, colours, desk, fewer, frames, house, ideal, matchings, packets, planes, ranks,
           ranktexts, rows, stable, strangers, switch)
NAMES = {name: thing for module in MODULES for name, thing in vars(module).items()
         if getattr(thing, "__module__", None) == module.__name__}
EXAMPLES = {
    "e01": ("s = (((0, (0, 0)), (1, (0, 0))), ((0, (0, 1)),))",
            "(stable_matching(s), blocks(s, ((0, 1, 1), (1, 0, 0))), all_stable(s))",
            "(((0, 0, 0),), [(0, 0)], [((0, 0, 0),)])"),
    "e02": ("w = Switch(2, 1)",
            "(w.beat((((0, 5),), ((0, 5),))), w.stores(), w.beat((None, None)), w.slacks())",
            "(((5, 0), None), (((5, 1),), ()), ((5, 1), None), ((), ()))"),
    "e03": ("w = ((0, 0), (0, 1), (1, 0), (2, 0))",
            "(greatest(3, w), is_cover(3, w, ((0,), (0,))), is_crowd(3, w, (1, 2)), needless(3, w), needed(3, w), "
            "degree(3, w))",
            "(((0, 1), (1, 0)), True, True, ((0, 0),), ((0, 1),), 3)"),
    "e04": ("", "with_tie(2, ((0, 0), (1, 1)), 2, (0, 1), (0, 1))", "((0, 1, 0), (1,))"),
    "e05": ("x = Laid((2, 2), (0, 1, 2))",
            "(x.put((0, 0)), x.put((1, 2)), x.put((2, 1)), x.laid(), x.lose(1), x.laid(), x.moved(), "
            "barred_laid((1, 2), 1))",
            "(0, 0, 0, (((0, 0), 0), ((1, 2), 1), ((2, 1), 1)), (), (((0, 0), 0), ((1, 2), 2), ((2, 1), 2)), 0, None)"),
    "e06": ("b = Buckets(2, ((2, 1, 0), (2, 1, 1)))",
            "(greatest_hold(b), worst_stream(b), greatest_wait(b, 0), greatest_wait(b, 1), breach(b, ((0,),) * 5), "
            "is_round(((1, 0), (1, 1)), 2, (((0, 0), (1, 1)), ((1, 0),))))",
            "(4, ((0, 1), (0, 1), (0, 1), (0, 1)), 0, 7, (0, 0, 4), True)"),
    "e07": ('p = Program((("keep", "n", ("+", ("keep", "n"), ("num", 1))), ("rank", ("*", ("fact", "kind"), '
            '("keep", "n")))))\nc = Cell(0, 0, 5, 3, (0,))\na = Ranker((p,))',
            "(a.rank(0, c, 0, 0), a.rank(1, c, 0, 2), a.kept(0), settings_text((p,)))",
            "(3, 6, {'n': 2}, 'out 0\\nkeep n (out:n + 1)\\nrank (kind * out:n)\\n')"),
    "e08": ("z = Program(())", "account_of(2, 1, (z, z), (((0, 0, (0,)), (0, 0, (0,))),))",
            "{'carried': [[((0, 0, 0),), ((1, 0, 1),)], [(), ()]], 'sent': [(0, None), (1, None)]}"),
    "e09": ("g = Gatherer(1)",
            "(cells_in((1, 2, (0,), (9, 8, 7, 6, 5))), g.comes(0, (0, 1, 0, (5,), 12)), g.lacking(0), "
            "g.comes(0, (0, 0, 1, (9, 8, 7, 6), 81)))",
            "(2, None, [(0, (0,))], (9, 8, 7, 6, 5))"),
    "e10": ("", 'tale(1, 2, 1, 1, ["beat 0.0>0 0.0>0", "count", "run 1", "planes"])', "['0 -', '2 1 1', '1 -', '0']"),
    "e11": ("", "against(1, lambda views: (min(sum(views[-1], ())),))",
            "((((0, 0, (0,)), (0, 0, (0,))), (None, (0, 0, (1,)))), (2, 1), 1)"),
    "e12": ("a = (((0, 0, (0,)), (0, 0, (0,))), (None, (0, 0, (1,))))",
            "(ideal_run(2, 1, a, {(0, 0): 0, (1, 0): 0, (2, 1): 0}), "
            "ideal_beats(2, 1, a, {(0, 0): 5, (1, 0): 4, (2, 1): 0}))",
            "([(0, None), (1, 2)], {(1, 0): 0, (0, 0): 1, (2, 1): 1})"),
    "e13": ("h = House(1, 2, 1, 2)",
            "(h.beat(((0, 0, (0,)), (0, 0, (0,)))), h.beat((None, (0, 0, (1,)))), h.counts(), h.whole())",
            "((0, None), (1, 2), (3, 3, 0), (0, 1))"),
}


class Examples(unittest.TestCase):
    def test_there_are_all_of_them(self):
        self.assertEqual(sorted(EXAMPLES), [f"e{number:02}" for number in range(1, 14)])

    def test_examples(self):
        for name, (behind, call, told) in EXAMPLES.items():
            with self.subTest(name):
                names = dict(NAMES)
                exec(behind, names)
                answer = eval(call, names)
                self.assertEqual(answer, eval(told))
                self.assertEqual(repr(answer), told)


if __name__ == "__main__":
    unittest.main()
