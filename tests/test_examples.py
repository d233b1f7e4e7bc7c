"""The document's own examples, as far as they have landed."""

import doctest
import unittest

STAGE_1 = """
>>> from wirewords.circuits import Circuit
>>> from wirewords.runs import answer, states_along, step, told, values
>>> flip = Circuit(["x"], [("n", "xor", ["x", "q"])], [("q", 0, "n")], ["n"])
>>> [answer(flip, [(1,), (1,), (0,)]), states_along(flip, [(1,), (1,)]), step(flip, (1,), (1,)), flip.cone("q")]
[[(1,), (0,), (0,)], [(0,), (1,), (0,)], ((0,), (0,)), ['n', 'q', 'x']]
>>> [answer(flip, [(1,), (1,)], stuck=("q", 1)), told(flip, "q", [(1,), (0,)]), values(flip, (0,), (1,))]
[[(0,), (0,)], [0, 1], {'n': 1, 'q': 0, 'x': 1}]
"""


class ExamplesTest(unittest.TestCase):
    def examples(self, text):
        test = doctest.DocTestParser().get_doctest(text, {}, "DOC.md", None, 0)
        said = []
        results = doctest.DocTestRunner(verbose=False).run(test, out=said.append)
        self.assertGreater(results.attempted, 0)
        self.assertEqual(results.failed, 0, "".join(said))

    def test_stage_1(self):
        self.examples(STAGE_1)


if __name__ == "__main__":
    unittest.main()
