"""orderof and counts: an order as it was given; how many orders, blocks, votes there are."""

import unittest

from tests.helper import (
    ANY, Scene, ask_all, blame, block, chain, contract, counts, force, head, hear, know, make, order, orderof, posts,
    tell, vote, world,
)


class OrderofTest(unittest.TestCase):
    def assert_told(self, given):
        """Just what was given, behind the call's number."""
        self.assertEqual(ask_all([order(*given), orderof(0)])[-1], list(given[:7]) + [len(given[7])] + list(given[7]))

    def test_each_kind(self):
        self.assert_told((1, 0, 0, 2, 5, 10, 1, []))
        self.assert_told((6, 3, 0, 7, 1000, 200, 20, [1, 2, 3]))
        self.assert_told((2, 1, 1, 0, 0, 99, 0, [1, 3, 17]))
        self.assert_told((2, 1, 1, 9, 0, 99, 0, []))

    def test_a_proof(self):
        scene = Scene()
        scene.tower(0, 3)
        scene.ask(vote(4, 0, 3))
        scene.ask(order(5, 2, 2, 8, 70, 30, 3, [4, 0, 3, 0, 3]))
        self.assertEqual(scene.peek(orderof(0)), [5, 2, 2, 8, 70, 30, 3, 5, 4, 0, 3, 0, 3])

    def test_the_edges(self):
        self.assert_told((1, ANY, 0, ANY, 1000, 200, 20, [999999] * 40))
        self.assert_told((1, 0, 0, 0, 0, 10, 0, [0] * 40))

    def test_each_by_its_number(self):
        calls = [order(person, person + 10, 0, 0, 0, 10, 0, [person] * person) for person in range(1, 7)]
        told = ask_all(calls + [orderof(number) for number in range(6)])[6:]
        expected = [[person, person + 10, 0, 0, 0, 10, 0, person] + [person] * person for person in range(1, 7)]
        self.assertEqual(told, expected)

    def test_no_such_order(self):
        for number in (0, 1, ANY):
            self.assertEqual(ask_all([orderof(number)]), [[-3]])
        for number in (1, 2, ANY):
            self.assertEqual(ask_all([order(1, 0, 0, 2, 0, 10, 0), orderof(number)])[-1], [-3])

    def test_behind_refused_orders(self):
        refused = [order(0, 0, 0, 2, 0, 10, 0), order(1, 0, 3, 2, 0, 10, 0), order(1, 0, 2, 2, 0, 10, 0, [1])]
        for call in refused:
            self.assertEqual(ask_all([call, orderof(0)])[-1], [-3])
        told = ask_all(refused + [order(3, 1, 0, 2, 4, 15, 6)] + refused + [orderof(0), orderof(1)])
        self.assertEqual(told[-2:], [[3, 1, 0, 2, 4, 15, 6, 0], [-3]])

    def test_the_same_when_it_is_done(self):
        scene = Scene()
        scene.ask(order(1, 0, 1, 0, 5, 20, 1, [1, 3, 17]))
        before = scene.peek(orderof(0))
        for call in (tell(1, 0), make(1, 2), force(0, 3, [0]), know(2, 2)):
            scene.ask(call)
            self.assertEqual(scene.peek(orderof(0)), before)


class CountsTest(unittest.TestCase):
    def setUp(self):
        self.scene = Scene()

    def assert_counts(self, orders, blocks, votes):
        self.assertEqual(self.scene.peek(counts()), [orders, blocks, votes])

    def test_at_first(self):
        self.assertEqual(ask_all([counts()]), [[0, 1, 0]])

    def test_what_comes_counts(self):
        self.scene.ask(order(1, 0, 0, 2, 0, 10, 0))
        self.assert_counts(1, 1, 0)
        self.scene.ask(order(1, 0, 0, 2, 0, 10, 0))
        self.assert_counts(2, 1, 0)
        self.scene.ask(make(1, 1))
        self.assert_counts(2, 2, 0)
        self.scene.ask(force(1, 1, [0]))
        self.assert_counts(2, 3, 0)
        self.scene.ask(force(2, 1, [0]))
        self.assert_counts(2, 4, 0)
        self.scene.ask(vote(1, 0, 3))
        self.assert_counts(2, 4, 1)
        self.scene.ask(vote(2, 0, 3))
        self.assert_counts(2, 4, 2)

    def test_blocks_that_are_not_right_count(self):
        self.assertEqual(self.scene.ask(force(0, 1, [0])), [1, 0])
        self.assert_counts(0, 2, 0)

    def test_what_is_told_known_heard_or_asked_does_not_count(self):
        for call in (order(1, 0, 1, 0, 0, 10, 0), force(0, 1, [0]), force(1, 1), force(2, 1), vote(1, 0, 3)):
            self.scene.ask(call)
        self.assert_counts(1, 4, 1)
        asked = (tell(1, 0), tell(1, 0), know(1, 1), know(1, 1), hear(1, 0), hear(1, 0), head(1), block(1), world(1),
                 contract(1, 7), chain(1), posts(1), blame(), orderof(0), counts())
        for call in asked:
            self.assertGreaterEqual(self.scene.ask(call)[0], 0)
            self.assert_counts(1, 4, 1)

    def test_refused_calls_do_not_count(self):
        for call in (order(1, 0, 0, 2, 0, 10, 0), force(0, 1), force(1, 1), force(2, 1, [9]), vote(1, 0, 3)):
            self.scene.ask(call)
        self.assert_counts(1, 4, 1)
        refused = (order(7, 0, 0, 2, 0, 10, 0), order(1, 0, 2, 2, 0, 10, 0), tell(4, 0), tell(1, 1), make(4, 1),
                   make(1, 7), force(4, 1), force(0, 0), force(0, 1, [0] * 21), know(4, 1), know(1, 4), know(1, 3),
                   know(1, 2), vote(5, 0, 3), vote(1, 0, 2), vote(1, 0, 3), hear(4, 0), hear(1, 1), head(4), block(4),
                   world(4), contract(4, 7), contract(1, 7), chain(4), posts(4), orderof(1))
        for call in refused:
            self.assertLess(self.scene.ask(call)[0], 0)
            self.assert_counts(1, 4, 1)


if __name__ == "__main__":
    unittest.main()
