"""The examples of the document, word for word: what stands behind `behind`, the call, what it `is`."""

import unittest

from exactbeats.fewer import against
from exactbeats.ideal import ideal_beats, ideal_run

NAMES = {"against": against, "ideal_run": ideal_run, "ideal_beats": ideal_beats}
EXAMPLES = {
    "e11": ("", "against(1, lambda views: (min(sum(views[-1], ())),))",
            "((((0, 0, (0,)), (0, 0, (0,))), (None, (0, 0, (1,)))), (2, 1), 1)"),
    "e12": ("a = (((0, 0, (0,)), (0, 0, (0,))), (None, (0, 0, (1,))))",
            "(ideal_run(2, 1, a, {(0, 0): 0, (1, 0): 0, (2, 1): 0}), "
            "ideal_beats(2, 1, a, {(0, 0): 5, (1, 0): 4, (2, 1): 0}))",
            "([(0, None), (1, 2)], {(1, 0): 0, (0, 0): 1, (2, 1): 1})"),
}


class Examples(unittest.TestCase):
    def test_examples(self):
        for name, (behind, call, told) in EXAMPLES.items():
            with self.subTest(name):
                names = dict(NAMES)
                exec(behind, names)
                answer = eval(call, names)
                self.assertEqual(answer, eval(told))
                self.assertEqual(repr(answer), told)


if __name__ == "__main__":
    unittest.main()
