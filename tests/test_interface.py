"""The interface: what is handed in and given back, and that a refused call leaves all as it was."""

import contextlib
import inspect
import io
import random
import sys
import unittest

from blockchainbooks.world import answers
from tests.helper import (
    ANY, ask_all, blame, block, chain, contract, counts, force, head, hear, know, make, order, orderof, paying, posts,
    split, tell, vote, world,
)


class Watched(list):
    """A list that tells of each try to change it."""

    def refuse(self, *unused):
        raise AssertionError("what is handed in was changed")

    append = clear = extend = insert = pop = remove = reverse = sort = refuse
    __setitem__ = __delitem__ = __iadd__ = __imul__ = refuse


def story():
    """Calls that let a world grow, none of them refused."""
    calls = [order(1, 0, 1, 0, 100, 20, 5, paying([1, 0, 11])), order(2, 0, 0, 7, 10, 60, 3, [4]),
             order(3, 0, 0, 7, 10, 60, 3, [400]), order(4, 0, 0, 2, 1000, 10, 0), order(2, 1, 0, 9, 1, 30, 2)]
    calls += [tell(node, number) for node in (1, 2) for number in (3, 1, 0, 4)]
    calls += [make(1, 6), force(0, 5, [0, 2]), know(3, 2), tell(3, 2), force(0, 5, [4])]
    calls += [force(1, 4), force(4, 4, [2]), know(2, 1), know(2, 4), force(2, 1), force(6, 1)]
    calls += [know(3, 6), know(3, 7), vote(1, 0, 5), vote(1, 0, 7), vote(2, 0, 5), vote(3, 0, 5)]
    calls += [hear(2, number) for number in (0, 1, 2, 3)] + [know(2, 5), make(2, 2)]
    calls += [order(5, 0, 2, 0, 0, 10, 1, [1, 0, 5, 0, 7]), tell(2, 5), tell(2, 2), make(2, 3)]
    return calls + [head(1), head(2), head(3), make(1, 1), make(3, 1), head(1), head(2), head(3)]


def looks():
    """Calls that only look at that world, none of them refused."""
    calls = [look(number) for number in range(12) for look in (block, world, chain)]
    calls += [contract(number, 7) for number in (1, 2, 5, 9)] + [posts(node) for node in (1, 2, 3)]
    return calls + [blame(), counts()] + [orderof(number) for number in range(6)]


def whole_line():
    """A hundred calls, with all sixteen kinds among them."""
    return story() + looks() + [head(2)]


def how_many(call, answer):
    """How many numbers the call answers, by what the answer itself tells of its lists."""
    kind = call[0]
    if kind == 2:
        return 3 + answer[2]
    if kind == 8:
        return 5 + answer[4] * (4 if answer[3] == 1 else 1)
    if kind == 9:
        return 1 + answer[0] + 6 + 4 + 2
    if kind == 10:
        return 1 + answer[0] + 1 + 2 * answer[1 + answer[0]]
    if kind == 11:
        return 1 + answer[0]
    if kind == 12:
        return 1 + answer[0] + 1 + answer[1 + answer[0]]
    if kind == 13:
        return 1 + 3 * answer[0]
    if kind == 14:
        return 8 + answer[7]
    return {3: 2, 5: 2, 7: 6, 15: 3}.get(kind, 1)


REFUSED = [
    order(0, 0, 0, 2, 0, 10, 0), order(1, 0, 3, 2, 0, 10, 0), order(1, 0, 0, 2, 1001, 10, 0),
    order(1, 0, 0, 2, 0, 9, 0), order(1, 0, 0, 2, 0, 201, 0), order(1, 0, 0, 2, 0, 10, 21),
    order(1, 0, 0, 2, 0, 10, 0, [0] * 41), order(1, 0, 1, 2, 0, 10, 0, [1000000]), order(1, 0, 2, 0, 0, 10, 0, [1]),
    order(1, 0, 2, 0, 0, 10, 0, [4, 0, 5, 0, 7]), tell(0, 0), tell(1, 99), make(4, 1), make(1, 0), make(1, 7),
    force(99, 1), force(0, 0), force(0, 1, [0] * 21), know(4, 0), know(1, 99), vote(5, 0, 3), vote(1, 0, 0),
    vote(1, 0, 99), hear(0, 0), hear(1, 99), head(0), head(4), block(99), block(ANY), world(99), contract(99, 7),
    contract(0, 7), contract(0, 6), chain(99), posts(0), posts(4), orderof(99),
]


class ListTest(unittest.TestCase):
    def flat(self):
        return [number for call in whole_line() for number in call]

    def test_a_hundred_calls_with_all_sixteen_kinds_and_no_refusal(self):
        told = ask_all(whole_line())
        self.assertEqual(len(told), 100)
        self.assertEqual({call[0] for call in whole_line()}, set(range(16)))
        self.assertGreaterEqual(min(min(answer) for answer in told), 0)

    def test_what_the_hundred_calls_answer(self):
        told = dict(zip([tuple(call) for call in whole_line()], ask_all(whole_line())))
        expected = (
            (block(1), [0, 1, 6, 1, 4, 0, 1, 4, 3, 0, 7, 10, 0, 0, 18, 4, 0, 30, 0, 0, 10]),
            (block(3), [0, 1, 5, 0, 1, 4]),
            (block(9), [8, 5, 3, 1, 1, 5, 0, 1, 10]),
            (world(1), [7, 850, 1876, 1000, 0, 1004, 1164, 106, 1, 2, 0, 1, 0, 0, 300, 300, 300, 300, 0, 1]),
            (world(3), [6] + [1000] * 6 + [0] * 6 + [300] * 4 + [0, 0]),
            (contract(9, 7), [6, 1, 5, 1, 0, 11, 14, 0]),
            (chain(9), [6, 9, 8, 5, 4, 1, 0]),
            (posts(1), [1, 0, 1, 0]),
            (posts(2), [2, 0, 5, 1, 0]),
            (blame(), [1, 1, 0, 1]),
            (counts(), [6, 12, 4]),
            (orderof(5), [5, 0, 2, 0, 0, 10, 1, 5, 1, 0, 5, 0, 7]),
        )
        for call, answer in expected:
            self.assertEqual(told[tuple(call)], answer, call)

    def test_how_many_numbers_each_answers(self):
        for call, answer in zip(whole_line(), ask_all(whole_line())):
            self.assertEqual(len(answer), how_many(call, answer), call)

    def test_looking_changes_nothing(self):
        calls = story()
        expected = ask_all(calls)
        look = [block(0), world(0), contract(1, 7), chain(0), posts(2), blame(), orderof(0), counts(), head(2)]
        for at in range(len(calls) + 1):
            told = ask_all(calls[:at] + look + calls[at:])
            self.assertEqual(told[:at] + told[at + len(look):], expected)
            self.assertEqual(told[at:at + len(look)], ask_all(calls[:at] + look + look)[-len(look):])

    def test_a_whole_list(self):
        calls = order(1, 0, 0, 2, 5, 10, 1) + tell(1, 0) + make(1, 3) + head(1) + head(9) + force(1, 2, [0])
        self.assertEqual(answers(calls), [1, 0, 1, 1, 4, 1, 0, 1, 0, 6, 1, 1, 0, 2, 0, 0, 1, -1, 2, 2, 0])

    def test_any_call_may_be_first(self):
        firsts = ((order(1, 0, 0, 2, 0, 10, 0), [0]), (tell(1, 0), [-3]), (make(1, 1), [1, 0, 0]),
                  (force(0, 1), [1, 1]), (know(1, 0), [0]), (vote(1, 0, 0), [-1]), (hear(1, 0), [-3]),
                  (head(1), [0, 0, 0, 1, 0, 0]), (block(0), [0, 0, 0, 1, 0]),
                  (world(0), [6] + [1000] * 6 + [0] * 6 + [300] * 4 + [0, 0]), (contract(0, 7), [-3]),
                  (chain(0), [1, 0]), (posts(3), [1, 0, 1, 0]), (blame(), [0]), (orderof(0), [-3]),
                  (counts(), [0, 1, 0]))
        self.assertEqual([call[0] for call, _ in firsts], list(range(16)))
        for call, expected in firsts:
            self.assertEqual(answers(call), [len(expected)] + expected)

    def test_what_is_handed_in_is_the_same_afterwards(self):
        calls = self.flat()
        before = list(calls)
        answers(calls)
        self.assertEqual(calls, before)

    def test_what_is_handed_in_is_not_changed_for_a_while_either(self):
        self.assertEqual(answers(Watched(self.flat())), answers(self.flat()))

    def test_nothing_is_kept(self):
        calls = self.flat()
        first = answers(calls)
        answers(order(1, 0, 1, 0, 900, 10, 0, [16]) + tell(1, 0) + make(1, 1) + tell(2, 0) + vote(1, 0, 0))
        self.assertEqual(answers(calls), first)
        first.append(0)
        self.assertEqual(answers(calls), first[:-1])

    def test_whole_numbers_in_a_list(self):
        told = answers(self.flat())
        self.assertIs(type(told), list)
        self.assertEqual({type(number) for number in told}, {int})

    def test_nothing_is_printed(self):
        out = io.StringIO()
        err = io.StringIO()
        with contextlib.redirect_stdout(out), contextlib.redirect_stderr(err):
            answers(self.flat())
        self.assertEqual((out.getvalue(), err.getvalue()), ("", ""))

    def test_the_highest_numbers(self):
        calls = [order(ANY, ANY, ANY, ANY, ANY, ANY, ANY, [ANY] * 45), tell(ANY, ANY), make(ANY, ANY),
                 force(ANY, ANY, [ANY] * 25), know(ANY, ANY), vote(ANY, ANY, ANY), hear(ANY, ANY), head(ANY),
                 posts(ANY)]
        self.assertEqual(ask_all(calls), [[-1]] * 9)
        calls = [block(ANY), world(ANY), contract(ANY, ANY), contract(0, ANY), chain(ANY), orderof(ANY)]
        self.assertEqual(ask_all(calls), [[-3]] * 6)

    def test_a_tower_of_a_hundred(self):
        told = ask_all([make(1, 1) for _ in range(99)] + [head(1)])
        self.assertEqual(told[-1], [99, 99, 0, 100, 0, 0])
        told = ask_all([force(at, 1) for at in range(99)] + [vote(1, 0, 99)])
        self.assertEqual(told[-1], [0, 0])

    def test_what_is_as_long_as_its_input_is_gone_through_by_loops(self):
        calls = [force(at, 1) for at in range(87)] + [vote(validator, 0, 87) for validator in (1, 2, 3)]
        calls += [hear(1, number) for number in range(3)] + [head(1), block(87), world(87), contract(87, 7), chain(87)]
        calls += [posts(1), blame()]
        self.assertEqual(len(calls), 100)
        limit = sys.getrecursionlimit()
        sys.setrecursionlimit(len(inspect.stack(0)) + 60)
        try:
            told = ask_all(calls)
        finally:
            sys.setrecursionlimit(limit)
        self.assertEqual(told[-3:], [[88] + list(range(87, -1, -1)), [2, 0, 87, 1, 0], [0]])


class RefusedTest(unittest.TestCase):
    def test_a_refused_call_leaves_all_as_it_was(self):
        calls = story() + looks()
        expected = ask_all(calls)
        for refused in REFUSED:
            for at in range(len(calls) + 1):
                told = ask_all(calls[:at] + [refused] + calls[at:])
                self.assertEqual(len(told[at]), 1)
                self.assertLess(told[at][0], 0)
                self.assertEqual(told[:at] + told[at + 1:], expected)

    def test_those_that_are_refused_at_the_end(self):
        calls = story()
        behind = [make(1, 2), make(2, 2), make(3, 2), head(1), head(2), head(3)] + looks()[-45:]
        expected = ask_all(calls + behind)
        for refused, answer in ((know(1, 5), -8), (know(1, 3), -5), (know(3, 3), -5), (vote(1, 0, 5), -6)):
            told = ask_all(calls + [refused] + behind)
            self.assertEqual(told.pop(len(calls)), [answer])
            self.assertEqual(told, expected)


class RandomTest(unittest.TestCase):
    def any_call(self, dice):
        kind = dice.randrange(16)
        node = dice.randrange(1, 4)
        low = dice.randrange(12)
        if kind == 0:
            code = [dice.randrange(23) for _ in range(dice.randrange(12))]
            return order(dice.randrange(1, 7), dice.randrange(3), dice.randrange(3), dice.randrange(9),
                         dice.randrange(300), dice.randrange(10, 90), dice.randrange(6), code)
        if kind == 3:
            return force(low, dice.randrange(1, 7), [dice.randrange(12) for _ in range(dice.randrange(3))])
        if kind == 5:
            return vote(dice.randrange(1, 5), 0, low)
        if kind in (7, 12):
            return [kind, node]
        if kind in (8, 9, 11, 14):
            return [kind, low]
        if kind == 10:
            return contract(low, dice.randrange(6, 10))
        if kind in (13, 15):
            return [kind]
        return [kind, node, low if kind != 2 else dice.randrange(1, 7)]

    def test_refused_calls_can_be_left_out(self):
        dice = random.Random(1)
        for _ in range(150):
            calls = [self.any_call(dice) for _ in range(100)]
            told = ask_all(calls)
            kept = [at for at in range(100) if told[at][0] >= 0]
            self.assertEqual(ask_all([calls[at] for at in kept]), [told[at] for at in kept])

    def test_calls_further_on_change_nothing_ahead(self):
        dice = random.Random(2)
        for _ in range(50):
            calls = [self.any_call(dice) for _ in range(60)]
            self.assertEqual(ask_all(calls)[:30], ask_all(calls[:30]))

    def test_split_reads_all(self):
        dice = random.Random(3)
        for _ in range(50):
            calls = [self.any_call(dice) for _ in range(100)]
            told = answers([number for call in calls for number in call])
            parts = split(told)
            self.assertEqual(len(parts), 100)
            self.assertEqual(sum(len(part) + 1 for part in parts), len(told))


if __name__ == "__main__":
    unittest.main()
