"""force and know: right blocks and others, forks, what a node gets to know."""

import unittest

from tests.helper import ANY, Scene, ask_all, force, head, know, make, order, tell


def pay(person, number, value=0, gas=10, price=0, to=2):
    return order(person, number, 0, to, value, gas, price)


class ForceTest(unittest.TestCase):
    def test_numbered_as_they_come(self):
        told = ask_all([force(0, 1), force(0, 1), force(1, 6), make(1, 1), force(4, 2)])
        self.assertEqual(told, [[1, 1], [2, 1], [3, 1], [4, 0, 0], [5, 1]])

    def test_refusals(self):
        for call in (force(1, 1), force(ANY, 1), force(0, 0), force(0, 7), force(0, ANY)):
            self.assertEqual(ask_all([call, force(0, 1)]), [[-1], [1, 1]])
        for maker in range(1, 7):
            self.assertEqual(ask_all([force(0, maker)]), [[1, 1]])

    def test_twenty_orders_at_most(self):
        scene = Scene()
        for number in range(25):
            scene.ask(pay(1, number))
        self.assertEqual(scene.peek(force(0, 1, range(20))), [1, 1])
        for many in (21, 25):
            self.assertEqual(scene.peek(force(0, 1, range(many))), [-1])
        self.assertEqual(scene.peek(force(0, 1, [7] * 21)), [-1])
        self.assertEqual(scene.peek(force(0, 1, [ANY] * 20)), [1, 0])

    def test_no_node_knows_it(self):
        scene = Scene()
        scene.ask(force(0, 1))
        for node in (1, 2, 3):
            self.assertEqual(scene.peek(head(node)), [0, 0, 0, 1, 0, 0])

    def test_the_orders_stay_in_the_pools(self):
        scene = Scene()
        scene.ask(pay(1, 0))
        scene.ask(tell(1, 0))
        scene.ask(force(0, 1, [0]))
        self.assertEqual(scene.peek(head(1)), [0, 0, 0, 1, 0, 1])


class RightTest(unittest.TestCase):
    def setUp(self):
        self.scene = Scene()

    def ordered(self, *orders):
        return [self.scene.ask(each)[0] for each in orders]

    def assert_right(self, numbers, right, below=0):
        answer = self.scene.peek(force(below, 6, numbers))
        self.assertEqual(answer[1], right)

    def test_orders_that_there_are_not(self):
        self.ordered(pay(1, 0))
        self.assert_right([0], 1)
        for numbers in ([1], [ANY], [0, 1], [1, 0]):
            self.assert_right(numbers, 0)

    def test_an_order_that_comes_later(self):
        block = self.scene.ask(force(0, 6, [0]))
        self.assertEqual(block, [1, 0])
        self.ordered(pay(1, 0, 100))
        self.assertEqual(self.scene.peek(know(1, 1)), [-5])
        self.assertEqual(self.scene.money(1, 1), 1000)
        self.assert_right([0], 1, below=1)

    def test_one_after_another(self):
        self.ordered(pay(1, 0), pay(1, 1), pay(2, 0))
        for numbers in ([0, 1, 2], [0, 2, 1], [2, 0, 1], [0], [2], []):
            self.assert_right(numbers, 1)
        for numbers in ([1], [1, 0], [2, 1, 0], [1, 0, 2]):
            self.assert_right(numbers, 0)

    def test_each_once(self):
        self.ordered(pay(1, 0), pay(1, 0))
        self.assert_right([0, 0], 0)
        self.assert_right([0, 1], 0)
        self.scene.ask(force(0, 6, [0]))
        self.assert_right([0], 0, below=1)
        self.assert_right([1], 0, below=1)
        self.assert_right([1], 1)

    def test_300_gas_together(self):
        self.ordered(pay(1, 0, 0, 200), pay(2, 0, 0, 100), pay(3, 0, 0, 101), pay(4, 0, 0, 90), pay(5, 0, 0, 11))
        self.assert_right([0, 1], 1)
        self.assert_right([1, 0], 1)
        self.assert_right([0, 2], 0)
        self.assert_right([2, 0], 0)
        self.assert_right([0, 3], 1)
        self.assert_right([0, 3, 4], 0)
        self.assert_right([1, 2, 3], 1)
        self.assert_right([1, 2, 3, 4], 0)

    def test_the_money_by_then(self):
        self.ordered(pay(1, 0, 1000), pay(2, 0, 1000), pay(2, 1, 1000, to=3), pay(2, 0, 1000, to=3))
        self.assert_right([0, 3, 2], 1)
        self.assert_right([3, 2], 0)
        self.assert_right([3, 0, 2], 1)
        self.assert_right([3, 2, 0], 0)

    def test_an_order_that_cannot_be_is_right_all_the_same(self):
        self.ordered(pay(1, 0, 10, to=99))
        self.assert_right([0], 1)

    def test_the_state_behind_one_that_is_not_right(self):
        self.ordered(pay(1, 0, 100), pay(3, 5))
        self.scene.ask(force(0, 6, [0]))
        self.assertEqual(self.scene.ask(pay(1, 1, 100)), [2])
        self.assertEqual(self.scene.ask(force(1, 6, [2, 1])), [2, 0])
        self.assertEqual((self.scene.money(2, 1), self.scene.turn(2, 1)), (900, 1))
        self.assertEqual(self.scene.ask(force(2, 6, [2])), [3, 1])
        self.assertEqual((self.scene.money(3, 1), self.scene.turn(3, 1)), (800, 2))

    def test_forks_know_nothing_of_one_another(self):
        self.ordered(pay(1, 0, 100), pay(1, 0, 200), pay(1, 1, 400))
        for numbers in ([0], [1], [0, 2]):
            self.assertEqual(self.scene.ask(force(0, 6, numbers))[1], 1)
        self.assertEqual([self.scene.money(block, 1) for block in (0, 1, 2, 3)], [1000, 900, 800, 500])
        self.assertEqual(self.scene.ask(force(2, 6, [2])), [4, 1])
        self.assertEqual([self.scene.money(block, 1) for block in (0, 1, 2, 3, 4)], [1000, 900, 800, 500, 400])


class KnowTest(unittest.TestCase):
    def setUp(self):
        self.scene = Scene()
        for call in (pay(1, 0), pay(2, 0), pay(3, 7)):
            self.scene.ask(call)

    def test_known_and_known_already(self):
        self.scene.ask(force(0, 1))
        self.assertEqual(self.scene.ask(know(2, 1)), [1])
        self.assertEqual(self.scene.ask(know(2, 1)), [0])
        self.assertEqual(self.scene.ask(know(1, 1)), [1])
        self.assertEqual(self.scene.peek(head(2)), [1, 1, 0, 2, 0, 0])
        self.assertEqual(self.scene.peek(head(3)), [0, 0, 0, 1, 0, 0])

    def test_block_0_is_known(self):
        for node in (1, 2, 3):
            self.assertEqual(self.scene.peek(know(node, 0)), [0])

    def test_one_that_the_node_made(self):
        self.scene.ask(make(1, 1))
        self.assertEqual(self.scene.peek(know(1, 1)), [0])
        self.assertEqual(self.scene.peek(know(2, 1)), [1])

    def test_no_node(self):
        for node in (0, 4, ANY):
            self.assertEqual(self.scene.peek(know(node, 0)), [-1])
            self.assertEqual(self.scene.peek(know(node, 99)), [-1])
            self.assertEqual(self.scene.peek(force(0, 1, [2]), know(node, 1)), [-1])

    def test_no_such_block(self):
        for block in (1, 2, ANY):
            self.assertEqual(self.scene.peek(know(1, block)), [-3])

    def test_not_right(self):
        self.scene.ask(force(0, 1, [2]))
        self.assertEqual(self.scene.ask(know(1, 1)), [-5])
        self.assertEqual(self.scene.peek(head(1)), [0, 0, 0, 1, 0, 0])

    def test_the_one_below_is_not_known(self):
        self.scene.ask(force(0, 1))
        self.scene.ask(force(1, 1))
        self.assertEqual(self.scene.ask(know(1, 2)), [-8])
        self.assertEqual(self.scene.peek(head(1)), [0, 0, 0, 1, 0, 0])
        self.assertEqual(self.scene.ask(know(2, 1)), [1])
        self.assertEqual(self.scene.ask(know(1, 2)), [-8])
        self.assertEqual(self.scene.ask(know(1, 1)), [1])
        self.assertEqual(self.scene.ask(know(1, 2)), [1])

    def test_not_right_is_told_first(self):
        self.scene.ask(force(0, 1))
        self.scene.ask(force(1, 1, [2]))
        self.assertEqual(self.scene.peek(know(1, 2)), [-5])
        self.assertEqual(self.scene.peek(know(1, 1), know(1, 2)), [-5])

    def test_on_one_that_is_not_right(self):
        self.scene.ask(force(0, 1, [2]))
        self.assertEqual(self.scene.ask(force(1, 1)), [2, 1])
        self.assertEqual(self.scene.peek(know(1, 2)), [-8])

    def test_its_orders_leave_the_pool(self):
        for node in (1, 2):
            for number in (1, 2, 0):
                self.scene.ask(tell(node, number))
        self.scene.ask(force(0, 1, [0, 1]))
        self.scene.ask(know(1, 1))
        self.assertEqual(self.scene.peek(head(1)), [1, 1, 0, 2, 0, 1])
        self.assertEqual(self.scene.peek(head(2)), [0, 0, 0, 1, 0, 3])
        self.assertEqual([self.scene.peek(tell(1, number)) for number in range(3)], [[1], [1], [0]])

    def test_they_stay_there_if_it_is_refused(self):
        self.scene.ask(tell(1, 0))
        self.scene.ask(force(0, 1, [0, 2]))
        self.scene.ask(know(1, 1))
        self.scene.ask(force(0, 1))
        self.scene.ask(force(2, 1, [0]))
        self.scene.ask(know(1, 3))
        self.assertEqual(self.scene.peek(head(1)), [0, 0, 0, 1, 0, 1])

    def test_told_again_behind_the_block(self):
        self.scene.ask(force(0, 1, [0]))
        self.scene.ask(know(1, 1))
        self.assertEqual(self.scene.ask(tell(1, 0)), [1])
        self.assertEqual(self.scene.ask(know(1, 1)), [0])
        self.assertEqual(self.scene.peek(head(1)), [1, 1, 0, 2, 0, 1])


if __name__ == "__main__":
    unittest.main()
