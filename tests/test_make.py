"""tell and make: the pool, and which orders a block takes from it, in which order."""

import unittest

from tests.helper import ANY, Scene, ask_all, force, head, know, make, order, tell, vote, hear


def pay(person, number, price=0, gas=10, value=0, to=6):
    return order(person, number, 0, to, value, gas, price)


class TellTest(unittest.TestCase):
    def test_told_and_told_already(self):
        told = ask_all([pay(1, 0), pay(2, 0), tell(1, 0), tell(1, 0), tell(1, 1), tell(1, 0), tell(2, 0), head(1)])
        self.assertEqual(told[2:], [[1], [0], [1], [0], [1], [0, 0, 0, 1, 0, 2]])

    def test_refusals(self):
        for node in (0, 4, ANY):
            self.assertEqual(ask_all([pay(1, 0), tell(node, 0)])[-1], [-1])
            self.assertEqual(ask_all([pay(1, 0), tell(node, 1)])[-1], [-1])
        for node in (1, 2, 3):
            self.assertEqual(ask_all([tell(node, 0)]), [[-3]])
            self.assertEqual(ask_all([pay(1, 0), tell(node, 1)])[-1], [-3])
            self.assertEqual(ask_all([pay(1, 0), tell(node, ANY)])[-1], [-3])

    def test_one_that_does_not_fit_waits_all_the_same(self):
        self.assertEqual(ask_all([pay(1, 9), tell(3, 0), head(3)])[1:], [[1], [0, 0, 0, 1, 0, 1]])


class MakeTest(unittest.TestCase):
    def setUp(self):
        self.scene = Scene()

    def pooled(self, *orders, node=1):
        for each in orders:
            number = self.scene.ask(each)[0]
            self.scene.ask(tell(node, number))

    def assert_made(self, expected, node=1, maker=6, below=0):
        answer = self.scene.ask(make(node, maker))
        self.assertEqual(answer[1:], [below, len(expected)] + expected)

    def test_refusals(self):
        for node, maker in ((0, 1), (4, 1), (ANY, 1), (1, 0), (1, 7), (1, ANY), (0, 0)):
            self.assertEqual(ask_all([make(node, maker), make(1, 1)]), [[-1], [1, 0, 0]])
        for node in (1, 2, 3):
            for maker in range(1, 7):
                self.assertEqual(ask_all([make(node, maker)]), [[1, 0, 0]])

    def test_the_highest_price_first(self):
        self.pooled(pay(1, 0, 3), pay(2, 0, 20), pay(3, 0, 0), pay(4, 0, 7))
        self.assert_made([1, 3, 0, 2])

    def test_of_several_the_first_in_the_pool(self):
        for person in (1, 2, 3, 4):
            self.scene.ask(pay(person, 0, 5))
        for number in (2, 0, 3, 1):
            self.scene.ask(tell(1, number))
        self.assert_made([2, 0, 3, 1])

    def test_told_twice_does_not_move_it(self):
        for person in (1, 2):
            self.scene.ask(pay(person, 0, 5))
        for number in (1, 0, 1):
            self.scene.ask(tell(1, number))
        self.assert_made([1, 0])

    def test_only_those_that_fit_by_then(self):
        self.pooled(pay(1, 1, 20), pay(1, 0, 1), pay(2, 0, 5), pay(1, 3, 20))
        self.assert_made([2, 1, 0])
        self.assertEqual(self.scene.peek(head(1)), [1, 1, 0, 2, 0, 1])

    def test_the_money_by_then(self):
        self.pooled(pay(1, 0, 5, 10, 900, 2), pay(1, 0, 6, 10, 900, 3), pay(2, 0, 4, 100, 1000))
        self.assert_made([1])
        self.scene = Scene()
        self.pooled(pay(2, 0, 4, 100, 1000), pay(1, 0, 1, 10, 900, 2))
        self.assert_made([1, 0])

    def test_what_the_maker_got_by_then(self):
        self.pooled(pay(6, 0, 20, 10, 801), pay(1, 0, 5))
        self.assert_made([1, 0], maker=6)
        self.scene = Scene()
        self.pooled(pay(6, 0, 20, 10, 801), pay(1, 0, 5))
        self.assert_made([1], maker=5)

    def test_300_gas_together(self):
        self.pooled(pay(1, 0, 5, 200), pay(2, 0, 4, 101), pay(3, 0, 3, 100), pay(4, 0, 2, 10))
        self.assert_made([0, 2])
        self.assert_made([1, 3], below=1)

    def test_one_that_is_too_much_is_passed_over(self):
        self.pooled(pay(1, 0, 5, 199), pay(2, 0, 4, 200), pay(3, 0, 3, 101), pay(4, 0, 2, 10))
        self.assert_made([0, 2])
        self.assert_made([1, 3], below=1)

    def test_as_much_gas_as_they_tell(self):
        self.pooled(*[pay(person, 0, 0, 200) for person in (1, 2, 3)])
        self.assert_made([0])
        self.assert_made([1], below=1)
        self.assert_made([2], below=2)
        self.assert_made([], below=3)

    def test_thirty_orders(self):
        for number in range(31):
            self.scene.ask(pay(1, number))
        for number in range(31):
            self.scene.ask(tell(1, 30 - number))
        self.assert_made(list(range(30)))
        self.assertEqual(self.scene.peek(head(1)), [1, 1, 0, 2, 0, 1])

    def test_they_are_done(self):
        self.pooled(pay(1, 0, 2, 30, 100, 2), pay(2, 0, 1, 10, 1000, 3))
        self.assert_made([0, 1], maker=4)
        money = [self.scene.money(1, person) for person in range(1, 7)]
        self.assertEqual(money, [880, 90, 2000, 1030, 1000, 1000])
        self.assertEqual([self.scene.turn(1, person) for person in range(1, 7)], [1, 1, 0, 0, 0, 0])

    def test_one_that_cannot_be_is_taken_too(self):
        self.pooled(pay(1, 0, 2, 30, 100, 99))
        self.assert_made([0])
        self.assertEqual((self.scene.money(1, 1), self.scene.money(1, 6)), (940, 1060))

    def test_calls_are_taken_with_what_they_do(self):
        # Contract 7 gives the 50 that it has to person 2, who has 1000 - 17 * 8 + 50 by then.
        for value, taken in ((844, [0, 1, 2]), (845, [0, 1])):
            self.scene = Scene()
            self.pooled(order(1, 0, 1, 0, 50, 10, 9, [9, 18, 14]), order(2, 0, 0, 7, 0, 20, 8), pay(2, 1, 7, 10, value))
            self.assert_made(taken, maker=5)

    def test_the_node_alone_knows_it(self):
        self.pooled(pay(1, 0))
        self.scene.ask(tell(2, 0))
        self.assert_made([0])
        self.assertEqual(self.scene.peek(head(1)), [1, 1, 0, 2, 0, 0])
        self.assertEqual(self.scene.peek(head(2)), [0, 0, 0, 1, 0, 1])
        self.assert_made([0], node=2)
        self.assertEqual(self.scene.peek(head(2)), [2, 1, 0, 2, 0, 0])

    def test_each_node_takes_from_its_own_pool(self):
        self.pooled(pay(1, 0), node=1)
        self.pooled(pay(2, 0), node=2)
        self.assert_made([1], node=2)
        self.assert_made([0], node=1)
        self.assert_made([], node=3)

    def test_one_done_below_does_not_fit(self):
        self.pooled(pay(1, 0))
        self.assert_made([0])
        self.assertEqual(self.scene.ask(tell(1, 0)), [1])
        self.assert_made([], below=1)
        self.assertEqual(self.scene.peek(head(1)), [2, 2, 0, 3, 0, 1])

    def test_those_left_keep_their_places(self):
        self.pooled(pay(1, 1, 3), pay(2, 1, 3), pay(3, 1, 3), pay(4, 0, 3))
        self.assert_made([3])
        self.pooled(pay(3, 0, 3), pay(2, 0, 3), pay(1, 0, 3))
        self.assert_made([4, 2, 5, 1, 6, 0], below=1)

    def test_on_the_head(self):
        low = self.scene.tower(0, 1)
        high = self.scene.tower(0, 2)
        self.assertEqual((low, high), (1, 3))
        for block in (1, 2, 3):
            self.scene.ask(know(1, block))
        self.assert_made([], below=3)
        self.assert_made([], below=4)

    def test_on_the_head_that_votes_moved(self):
        self.scene.tower(0, 3)
        self.scene.tower(0, 4)
        self.pooled(pay(1, 0))
        for block in range(1, 8):
            self.scene.ask(know(1, block))
        self.assertEqual(self.scene.peek(make(1, 1)), [8, 7, 1, 0])
        for at, validator in enumerate((1, 2, 4)):
            self.scene.ask(vote(validator, 0, 3))
            self.scene.ask(hear(1, at))
        self.assertEqual(self.scene.peek(make(1, 1)), [8, 3, 1, 0])

    def test_forced_blocks_leave_its_pool_alone(self):
        self.pooled(pay(1, 0))
        self.scene.ask(force(0, 1, [0]))
        self.assert_made([0])


if __name__ == "__main__":
    unittest.main()
