"""block: on which it stands, how high it is, its maker, whether it's right, its orders."""

import unittest

from tests.helper import ANY, Scene, ask_all, block, force, head, know, make, order, tell


def pay(person, number, gas=10, to=2):
    return order(person, number, 0, to, 5, gas, 1)


class BlockTest(unittest.TestCase):
    def setUp(self):
        self.scene = Scene()
        for call in (pay(1, 0), pay(1, 1, 20), pay(2, 0, 30, 99), pay(3, 5)):
            self.scene.ask(call)

    def assert_block(self, number, expected):
        self.assertEqual(self.scene.peek(block(number)), expected)

    def test_block_0(self):
        self.assertEqual(ask_all([block(0)]), [[0, 0, 0, 1, 0]])
        self.scene.block(0)
        self.assert_block(0, [0, 0, 0, 1, 0])

    def test_without_orders(self):
        self.scene.ask(force(0, 5))
        self.assert_block(1, [0, 1, 5, 1, 0])

    def test_each_maker(self):
        for maker in range(1, 7):
            self.scene.ask(force(0, maker))
            self.assert_block(maker, [0, 1, maker, 1, 0])

    def test_with_orders(self):
        self.scene.ask(force(0, 4, [0, 2, 1]))
        self.assert_block(1, [0, 1, 4, 1, 3, 0, 2, 1, 0, 0, 10, 4, 0, 30, 0, 0, 10])

    def test_one_that_a_node_made(self):
        for number in (1, 2, 0):
            self.scene.ask(tell(2, number))
        self.scene.ask(make(2, 3))
        self.assert_block(1, [0, 1, 3, 1, 3, 2, 0, 1, 4, 0, 30, 0, 0, 10, 0, 0, 10])
        self.scene.ask(make(2, 6))
        self.assert_block(2, [1, 2, 6, 1, 0])

    def test_one_on_another(self):
        for at in range(20):
            self.scene.ask(force(at, 1 + at % 6))
            self.assert_block(at + 1, [at, at + 1, 1 + at % 6, 1, 0])

    def test_forks(self):
        self.scene.ask(force(0, 1, [0]))
        self.scene.ask(force(0, 2, [2]))
        self.scene.ask(force(1, 3, [2]))
        self.scene.ask(force(1, 4, [1]))
        self.scene.ask(force(2, 5, [0, 1]))
        self.assert_block(1, [0, 1, 1, 1, 1, 0, 0, 0, 10])
        self.assert_block(2, [0, 1, 2, 1, 1, 2, 4, 0, 30])
        self.assert_block(3, [1, 2, 3, 1, 1, 2, 4, 0, 30])
        self.assert_block(4, [1, 2, 4, 1, 1, 1, 0, 0, 10])
        self.assert_block(5, [2, 2, 5, 1, 2, 0, 1, 0, 0, 10, 0, 0, 10])

    def test_not_right(self):
        for at, numbers in enumerate(([3], [1], [0, 0], [1, 0], [0, 2, 3], [4], [ANY], [0, ANY, ANY], [ANY] * 20)):
            self.assertEqual(self.scene.ask(force(0, 6, numbers)), [at + 1, 0])
            self.assert_block(at + 1, [0, 1, 6, 0, len(numbers)] + numbers)

    def test_too_much_gas(self):
        for number, gas in enumerate((200, 100, 101)):
            self.scene.ask(pay(4, number, gas))
        self.scene.ask(force(0, 6, [4, 5]))
        self.scene.ask(force(0, 6, [4, 5, 0]))
        self.assert_block(1, [0, 1, 6, 1, 2, 4, 5, 0, 0, 10, 0, 0, 10])
        self.assert_block(2, [0, 1, 6, 0, 3, 4, 5, 0])

    def test_on_one_that_is_not_right(self):
        self.scene.ask(force(0, 6, [3]))
        self.scene.ask(force(1, 5, [0]))
        self.scene.ask(force(2, 4, [0]))
        self.scene.ask(force(3, 3, [1]))
        self.assert_block(1, [0, 1, 6, 0, 1, 3])
        self.assert_block(2, [1, 2, 5, 1, 1, 0, 0, 0, 10])
        self.assert_block(3, [2, 3, 4, 0, 1, 0])
        self.assert_block(4, [3, 4, 3, 1, 1, 1, 0, 0, 10])

    def test_an_order_that_comes_later(self):
        self.scene.ask(force(0, 6, [4]))
        self.scene.ask(pay(5, 0))
        self.assert_block(1, [0, 1, 6, 0, 1, 4])

    def test_twenty_orders(self):
        scene = Scene()
        for number in range(20):
            scene.ask(order(1, number, 0, 2, 0, 10, 0))
        scene.ask(force(0, 6, range(20)))
        self.assertEqual(scene.peek(block(1)), [0, 1, 6, 1, 20] + list(range(20)) + [0, 0, 10] * 20)

    def test_no_such_block(self):
        for number in (1, 2, ANY):
            self.assert_block(number, [-3])
        self.scene.ask(force(0, 1))
        self.assert_block(1, [0, 1, 1, 1, 0])
        for number in (2, ANY):
            self.assert_block(number, [-3])

    def test_refused_blocks_are_not_there(self):
        self.scene.ask(force(5, 1))
        self.scene.ask(force(0, 7))
        self.scene.ask(make(4, 1))
        self.assert_block(1, [-3])

    def test_whoever_knows_it(self):
        self.scene.ask(force(0, 6, [0]))
        before = self.scene.peek(block(1))
        self.scene.ask(know(1, 1))
        self.assert_block(1, before)
        self.assertEqual(self.scene.peek(block(1), head(2)), [0, 0, 0, 1, 0, 0])


if __name__ == "__main__":
    unittest.main()
