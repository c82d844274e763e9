"""The examples of the document, word for word."""

import doctest
import unittest

POINT_4 = """
    >>> from sortedshelves.machines import count, goes_on, is_of, machine_error, size, told
    >>> kind, short = (2, ((0, 1), (0, None)), (True, True)), (1, ((1,), (None,)), (True, True))
    >>> [machine_error(kind), machine_error((2, ((0, 1), (0, 2)), (True, True))), is_of(kind, "abb"), told(kind, 3, 4), [count(kind, n) for n in range(6)], size(kind), size(short), goes_on(kind), goes_on(short)]
    [None, 'rows', False, ('aaa', 'aab', 'aba', 'baa'), [1, 2, 3, 5, 8, 13], None, 2, (1, 1), (0, 0)]
"""

POINT_5 = """
    >>> from sortedshelves.machines import apart, backwards, begins, both, either, less, smallest
    >>> one, other = (2, ((1, 0), (0, 1)), (True, False)), (2, ((0, 1), (None, 1)), (True, True))
    >>> [smallest((2, ((1, 2), (1, 2), (1, 2)), (True, True, True))), apart(one, other), both(one, (2, ((None, 0),), (True,))), less(one, one), begins((2, ((1, None), (None, 2), (None, None)), (False, False, True)))]
    [(2, ((0, 0),), (True,)), 'a', (2, ((None, 0),), (True,)), (2, ((None, None),), (False,)), (2, ((1, None), (None, 2), (None, None)), (True, True, True))]
    >>> [backwards(other), either(other, backwards(other))]
    [(2, ((1, 0), (1, None)), (True, True)), (2, ((1, 2), (1, 3), (4, 2), (None, 3), (4, None)), (True, True, True, True, True))]
"""


class Examples(unittest.TestCase):
    def follow(self, text, many):
        example = doctest.DocTestParser().get_doctest(text, {}, "example", None, 0)
        self.assertEqual(len(example.examples), many)
        runner = doctest.DocTestRunner(verbose=False)
        told = []
        failed, tried = runner.run(example, out=told.append)
        self.assertEqual((failed, tried), (0, many), "".join(told))

    def test_point_4(self):
        self.follow(POINT_4, 3)

    def test_point_5(self):
        self.follow(POINT_5, 4)


if __name__ == "__main__":
    unittest.main()
