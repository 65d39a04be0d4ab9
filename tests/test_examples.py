"""The examples of the document, as they stand: one session; and those of README.md."""

import doctest
import pathlib
import unittest

SESSION = """
>>> from hookmats.mats import all_mats, beside, hook, how_many, lower_half, nth, rank, straight, strings, through, turned, upper_half, upside_down
>>> [straight(2), hook(3, 0), how_many(3, 3), how_many(2, 1), all_mats(1, 3), rank(hook(2, 0)), nth(2, 2, 1)]
[(2, 2, (2, 3, 0, 1)), (3, 3, (1, 0, 5, 4, 3, 2)), 5, 0, [(1, 3, (1, 0, 3, 2)), (1, 3, (3, 2, 1, 0))], 0, (2, 2, (2, 3, 0, 1))]
>>> [through(hook(3, 0)), upper_half(hook(3, 0)), turned(straight(2)), strings(hook(2, 0)), beside(straight(1), hook(2, 0))]
[1, (3, 1, (1, 0, 3, 2)), (2, 2, (1, 0, 3, 2)), [(0, 1), (2, 3)], (3, 3, (3, 2, 1, 0, 5, 4))]
>>> from hookmats.joins import comes_again, commute, fits_between, is_own_twice, joined, power
>>> e, f = hook(3, 0), hook(3, 1)
>>> [joined(e, e), joined(e, f), power(e, 4)[0], comes_again(joined(e, f)[1]), is_own_twice(e), commute(e, f), fits_between(joined(f, e)[1], f, e)]
[(1, (3, 3, (1, 0, 5, 4, 3, 2))), (0, (3, 3, (1, 0, 3, 2, 5, 4))), 3, (1, 1), True, False, (3, 3, (1, 0, 3, 2, 5, 4))]
"""


README = pathlib.Path(__file__).resolve().parent.parent / "README.md"


class TestExamples(unittest.TestCase):

    def assert_holds(self, text, attempted):
        told = []
        session = doctest.DocTestParser().get_doctest(text, {}, "session", None, 0)
        result = doctest.DocTestRunner(verbose=False).run(session, out=told.append)
        self.assertEqual((result.failed, result.attempted), (0, attempted), "".join(told))

    def test_the_session(self):
        self.assert_holds(SESSION, 6)

    def test_the_readme(self):
        self.assert_holds(README.read_text().replace("```\n", "\n"), 6)


if __name__ == "__main__":
    unittest.main()
