"""The examples of the document, word for word."""

import doctest
import unittest

from sortedshelves import errors

POINT_4 = r"""
    >>> from sortedshelves.machines import count, goes_on, is_of, machine_error, size, told
    >>> kind, short = (2, ((0, 1), (0, None)), (True, True)), (1, ((1,), (None,)), (True, True))
    >>> [machine_error(kind), machine_error((2, ((0, 1), (0, 2)), (True, True))), is_of(kind, "abb"), told(kind, 3, 4), [count(kind, n) for n in range(6)], size(kind), size(short), goes_on(kind), goes_on(short)]
    [None, 'rows', False, ('aaa', 'aab', 'aba', 'baa'), [1, 2, 3, 5, 8, 13], None, 2, (1, 1), (0, 0)]
"""

POINT_5 = r"""
    >>> from sortedshelves.machines import apart, backwards, begins, both, either, less, smallest
    >>> one, other = (2, ((1, 0), (0, 1)), (True, False)), (2, ((0, 1), (None, 1)), (True, True))
    >>> [smallest((2, ((1, 2), (1, 2), (1, 2)), (True, True, True))), apart(one, other), both(one, (2, ((None, 0),), (True,))), less(one, one), begins((2, ((1, None), (None, 2), (None, None)), (False, False, True)))]
    [(2, ((0, 0),), (True,)), 'a', (2, ((None, 0),), (True,)), (2, ((None, None),), (False,)), (2, ((1, None), (None, 2), (None, None)), (True, True, True))]
    >>> [backwards(other), either(other, backwards(other))]
    [(2, ((1, 0), (1, None)), (True, True)), (2, ((1, 2), (1, 3), (4, 2), (None, 3), (4, None)), (True, True, True, True, True))]
"""

POINTS_6_AND_7 = r"""
    >>> from sortedshelves.forms import above, greatest, heights, heights_hold, worth
    >>> kind = (2, ((0, 1), (0, None)), (True, True))
    >>> [worth((2, -3), "aab"), greatest(kind, (-1, 2))[0], greatest(kind, (-2, 2)), greatest(kind, (1, -9))[0], above(kind, (-1, 2), 2), above(kind, (1, 0), 2), heights_hold(kind, (-2, 2), 2, (0, 2)), heights_hold(kind, (-2, 2), 1, heights(kind, (-2, 2), 2)), heights(kind, (-1, 2), 1)]
    [1, 'ring', ('most', 2, 'b'), 'ring', 'bab', 'aaa', True, False, None]
"""

LIMITS_OF_POINT_6 = r"""
    >>> from sortedshelves.limits import breach, most_kept
    >>> kind = (2, ((0, 1), (0, None)), (True, True))
    >>> [breach(kind, ((1, 2), 4), ((1, 0), 2)), breach(kind, ((1, 1), 4), ((0, 1), 2)), most_kept(kind, ((0, 1), 1), (-1, 5)), most_kept(kind, ((0, 1), 1), (1, 0))[0], most_kept((1, ((0,),), (False,)), ((1,), 9), (1,))]
    ['aaa', None, ('most', 5, 'b'), 'ring', ('none',)]
"""

POINT_8 = r"""
    >>> from sortedshelves.steps import image, line_error
    >>> fold, swap = ("pass", ((0, 0),), (("b", "a"),)), ("swap", (("ab", "ba"),))
    >>> [line_error(2, (fold, swap)), line_error(1, (("cut", (1,), 31),)), line_error(2, (("stop", "a"), ("stop", "c"))), image((fold,), "aab"), image((swap,), "abab"), image((swap, swap), "abab"), image((("cut", (0, 1), 1),), "aabab"), image((("stop", "b"), fold), "aab"), image((("pass", ((1, 0), (1, 1)), (("b", "b"), ("a", "b"))),), "baab")]
    [None, (0, 'step'), (1, 'step'), 'bba', 'baab', 'abab', 'aaba', 'bb', 'bbab']
"""

POINT_11 = r"""
    >>> from sortedshelves.comps import by_length, by_ranks, comp_error, tells, then, turned
    >>> plain, short = by_ranks(2, (0, 1)), then(by_length(2), turned(by_ranks(2, (0, 1))))
    >>> [comp_error(plain), comp_error((1, ((0, 0, 1),), (0,))), tells(plain, "ab", "b"), tells(short, "ab", "b"), tells(short, "ab", "ba"), by_length(1), len(short[1])]
    [None, 'rows', -1, 1, 1, (1, ((0, 2, 1), (1, 1, 1), (2, 2, 2)), (0, -1, 1)), 7]
"""

POINTS_9_AND_10 = r"""
    >>> from sortedshelves.comps import by_ranks
    >>> from sortedshelves.lines import again, alike, greatest_image, images, leaves, loses, overlong, sources, unsorts
    >>> every, fold, swap = (2, ((0, 0),), (True,)), ("pass", ((0, 0),), (("b", "b"),)), ("swap", (("ab", "ba"),))
    >>> [alike(every, (swap, swap), ()), alike(every, (swap,), ()), again(every, (fold,)), again(every, (swap,)), leaves(every, (fold,), (2, ((None, 0),), (True,))), overlong(every, (("cut", (1, 1), 3),), ((1, 0), 2))]
    ['aab', 'ab', None, 'ab', None, 'aaa']
    >>> [loses(every, (fold,)), loses(every, (swap,)), unsorts(every, by_ranks(2, (0, 1)), (swap,)), unsorts(every, by_ranks(2, (0, 0)), (fold,)), images(every, (fold,)), sources((2, ((None, 0),), (True,)), (("stop", "a"),)), greatest_image(every, (("cut", (1, 0), 2),), (3, 0))]
    [('a', 'b'), ('aab', 'baa'), ('ab', 'b'), None, (2, ((None, 0),), (True,)), (2, ((0, 0),), (True,)), ('most', 6, 'aa')]
"""

POINTS_12_AND_13 = r"""
    >>> from sortedshelves.comps import by_length, by_ranks
    >>> from sortedshelves.orders import chain_fault, first_fault, is_order, order_paper, paper_holds, self_fault, tie, turn_fault, unlike
    >>> every, evens, odd = (1, ((0,),), (True,)), (1, ((1,), (0,)), (True, False)), (1, ((0, 1, 1), (0, 0, 0)), (0, 1))
    >>> [turn_fault(every, odd), is_order(evens, odd), first_fault(every, (1, ((1, 0, 0), (0, 0, 0)), (0, 1))), tie(every, by_length(1)), tie(evens, odd), unlike(every, odd, by_length(1))]
    [('', 'a'), True, 'a', None, ('', 'aa'), ('', 'a')]
    >>> [paper_holds(every, (1, ((0, 0, 0),), (0,)), ((((0,), (0,)),), (), ())), paper_holds(evens, odd, order_paper(evens, odd)), order_paper(every, odd), chain_fault(every, (1, ((0, 1, 2), (1, 0, 2), (2, 1, 0)), (0, 1, -1)))]
    [False, True, None, ('a', 'aa', '')]
"""

POINT_14 = r"""
    >>> from sortedshelves.comps import by_length, by_ranks, then, turned
    >>> from sortedshelves.ranks import alikes, between, between_count, just_above, leaders, least, rank
    >>> kind, plain = (2, ((0, 1), (0, None)), (True, True)), by_ranks(2, (0, 1))
    >>> strict = then(by_length(2), plain)
    >>> [rank(kind, plain, "aa"), rank(kind, plain, "b"), rank(kind, strict, "aab"), alikes(kind, by_length(2), "bb"), between(kind, plain, "a", "b"), between_count(kind, strict, "a", "bab"), least(kind, turned(plain)), least(kind, plain)]
    [2, None, 7, 3, 'aa', 8, None, '']
    >>> [leaders(kind, strict, 5), leaders(kind, turned(by_ranks(2, (0, 1))), 3), just_above(kind, strict, "ab"), just_above(kind, plain, "a"), just_above(kind, plain, "b")]
    [('', 'a', 'b', 'aa', 'ab'), (), 'ba', 'aa', 'ba']
"""

POINT_15 = r"""
    >>> from sortedshelves.comps import by_length, by_ranks
    >>> from sortedshelves.queries import answers, asked, query_error, same
    >>> every, plain, fold = (2, ((0, 0),), (True,)), by_ranks(2, (0, 1)), ("pass", ((0, 0),), (("b", "a"),))
    >>> [query_error(2, ("not", ("below", "ab"))), query_error(1, ("has", "b")), answers(plain, ("seen", (fold,), ("below", "b")), "ba"), answers(plain, ("all", ()), ""), asked(every, by_length(2), ("below", "aa")), same(every, plain, ("not", ("below", "a")), ("above", "a")), same(every, plain, ("seen", (fold,), ("has", "ab")), ("has", "ba"))]
    [None, 'query', True, True, (2, ((1, 1), (None, None)), (True, True)), 'a', None]
"""

POINT_17 = r"""
    >>> from sortedshelves.comps import by_length
    >>> from sortedshelves.texts import parse_plan, plan_error, plan_text
    >>> plan = ((1, ((0,),), (True,)), by_length(1), (("pass", ((0,),), (("a",),)), ("cut", (1,), 5)), ((1,), 9), ("", "aa"))
    >>> [plan_text(plan), plan_error(plan), parse_plan(plan_text(plan)) == plan, plan_error(plan[:4] + (("aa", "a"),)), plan_error(plan[:3] + (((1,), 1), ("aa",)))]
    ['letters a\nstate 0 end\nrow 0 2 1 same\nrow 1 1 1 less\nrow 2 2 2 more\npass 0a\ncut 1 to 5\nroom 1 to 9\nword -\nword aa', None, True, ('sorted', 0), ('room', 'full')]
"""

NO_PLAN_OF_POINT_17 = r"""
    >>> from sortedshelves.texts import parse_plan
    >>> parse_plan('letters a\nstate 0 end\nrow 0 2 1 same')
"""

NO_ROW_OF_POINT_17 = r"""
    >>> from sortedshelves.texts import parse_plan
    >>> parse_plan('letters a\nstate 0 end')
"""

POINT_18 = r"""
    >>> from sortedshelves.comps import by_length, by_ranks
    >>> from sortedshelves.shelves import Shelf
    >>> shelf = Shelf(((2, ((0, 0),), (True,)), by_length(2), (("pass", ((0, 0),), (("b", "b"),)),), None, ()))
    >>> [shelf.put("aa"), shelf.put("b"), shelf.lay(()), shelf.put("a"), shelf.plan[4], shelf.reorder(by_ranks(2, (0, 1))), shelf.plan[4], shelf.take(0), shelf.weed(("has", "bb")), shelf.plan[4]]
    [1, 2, 3, 4, ('b', 'a', 'bb'), 5, ('a', 'b', 'bb'), 6, 7, ('b',)]
"""

POINT_19 = r"""
    >>> from sortedshelves.comps import by_length
    >>> from sortedshelves.shelves import Shelf
    >>> shelf = Shelf(((1, ((0,),), (True,)), by_length(1), (), ((1,), 6), ("a",)))
    >>> [shelf.attempt([("put", "aaa"), ("put", "aa"), ("put", "a")], watch=lambda held: len(held) == 3), shelf.plan[4], shelf.age(), shelf.undo(), len(shelf), shelf.redo(), shelf.edits()]
    [2, ('a', 'aa', 'aaa'), 1, 0, 1, 1, (('attempt', (('put', 'aaa'), ('put', 'aa'))),)]
"""

POINT_21 = r"""
    >>> from sortedshelves.comps import by_length, by_ranks
    >>> from sortedshelves.shelves import SureShelf
    >>> swap = ("pass", ((0, 0),), (("b", "a"),))
    >>> shelf = SureShelf(((2, ((0, 0),), (True,)), by_length(2), (swap,), None, ()))
    >>> [shelf.put("ab"), shelf.attempt([("lay", ()), ("reorder", by_ranks(2, (0, 1)))]), shelf.plan[4], str(shelf), shelf == SureShelf(shelf.plan)]
    [1, 2, ('ba',), '1 words, 2 edits', True]
"""

UNSURE_OF_POINT_21 = r"""
    >>> from sortedshelves.comps import by_length, by_ranks
    >>> from sortedshelves.shelves import SureShelf
    >>> SureShelf(((2, ((0, 0),), (True,)), by_length(2), (("pass", ((0, 0),), (("b", "a"),)),), None, ())).reorder(by_ranks(2, (0, 1)))
"""

POINTS_22_AND_23 = r"""
    >>> from sortedshelves.comps import by_length
    >>> from sortedshelves.runs import fewest_runs, joined, kept, replayed, run_error
    >>> run = (((1, ((0,),), (True,)), by_length(1), (), ((1,), 4), ()), (("put", "aaa"), ("put", "aa"), ("undo",), ("put", "a"), ("redo",), ("take", 7), ("take", 0)))
    >>> [run_error(run), run_error((run[0], (("push", "a"),))), replayed(run)[0][4], replayed(run)[1], kept(run)]
    [None, ('entry', 0), (), (1, 'Full', 0, 1, 'NothingToRedo', 'NoWord', 2), (('put', 'a'), ('take', 0))]
    >>> [joined(("a", "b"), ("a", "b", "b"), ("b",)), joined(("a",), (), ()), fewest_runs(("a", "b"), ("b", "b", "c"))]
    [('b', 'b'), (), 3]
"""

POINT_24 = r"""
    >>> from sortedshelves.comps import by_length
    >>> from sortedshelves.consoles import Console
    >>> from sortedshelves.shelves import Shelf
    >>> console = Console(Shelf(((1, ((0,),), (True,)), by_length(1), (), ((1,), 4), ("a",))))
    >>> [console.execute(line) for line in ('put aa', 'put aa', 'put -', 'page 0 9', 'find above a', 'find is -', 'places a', 'weed below aa', 'count', 'take 1', 'put b', 'page 5 1', 'undo', 'find has -', 'page 0 -1', 'plan', 'put  a')]
    ['ok 1', 'error Full', 'ok 2', '- a aa', '2', '0', '1 2', 'ok 3', '1 3', 'error NoWord', 'error BadWord', 'none', 'ok 2', 'error BadQuery', 'error BadPage', 'letters a | state 0 end | row 0 2 1 same | row 1 1 1 less | row 2 2 2 more | room 1 to 4 | word - | word a | word aa', 'unknown command']
"""


class Examples(unittest.TestCase):
    def follow(self, text, many):
        example = doctest.DocTestParser().get_doctest(text, {}, "example", None, 0)
        self.assertEqual(len(example.examples), many)
        runner = doctest.DocTestRunner(verbose=False)
        told = []
        failed, tried = runner.run(example, out=told.append)
        self.assertEqual((failed, tried), (0, many), "".join(told))

    def raises(self, text, wanted):
        """The last row of the example raises this error."""
        rows = [row.strip()[4:] for row in text.strip().split("\n")]
        held = {}
        for row in rows[:-1]:
            exec(row, held)
        with self.assertRaises((errors.ShelfError, errors.NoWord, errors.NoVersion)) as caught:
            eval(rows[-1], held)
        found, wanted = caught.exception, eval(wanted, vars(errors))
        self.assertIs(type(found), type(wanted))
        self.assertEqual(vars(found), vars(wanted))

    def test_point_4(self):
        self.follow(POINT_4, 3)

    def test_point_5(self):
        self.follow(POINT_5, 4)

    def test_points_6_and_7(self):
        self.follow(POINTS_6_AND_7, 3)

    def test_limits_of_point_6(self):
        self.follow(LIMITS_OF_POINT_6, 3)

    def test_point_8(self):
        self.follow(POINT_8, 3)

    def test_point_11(self):
        self.follow(POINT_11, 3)

    def test_points_9_and_10(self):
        self.follow(POINTS_9_AND_10, 5)

    def test_points_12_and_13(self):
        self.follow(POINTS_12_AND_13, 5)

    def test_point_14(self):
        self.follow(POINT_14, 6)

    def test_point_15(self):
        self.follow(POINT_15, 4)

    def test_point_17(self):
        self.follow(POINT_17, 4)

    def test_no_plan_of_point_17(self):
        self.raises(NO_PLAN_OF_POINT_17, "BadPlan(('comp', 'rows'))")

    def test_no_row_of_point_17(self):
        self.raises(NO_ROW_OF_POINT_17, "BadText(2)")

    def test_point_18(self):
        self.follow(POINT_18, 4)

    def test_point_19(self):
        self.follow(POINT_19, 4)

    def test_point_21(self):
        self.follow(POINT_21, 5)

    def test_unsure_of_point_21(self):
        self.raises(UNSURE_OF_POINT_21, "Unsure('unsorts', ('a', 'b'))")

    def test_points_22_and_23(self):
        self.follow(POINTS_22_AND_23, 5)

    def test_point_24(self):
        self.follow(POINT_24, 5)


if __name__ == "__main__":
    unittest.main()
