"""world: money, next, held, burnt and how many contracts, of the state behind a block."""

import unittest

from tests.helper import ANY, Scene, ask_all, force, make, order, paying, tell, vote, world

FIRST = [6] + [1000] * 6 + [0] * 6 + [300] * 4 + [0, 0]


def pay(person, number, to, value, gas=10, price=0, numbers=()):
    return order(person, number, 0, to, value, gas, price, numbers)


def new_contract(person, number, value, code=(), gas=10, price=0):
    return order(person, number, 1, 0, value, gas, price, code)


class WorldTest(unittest.TestCase):
    def setUp(self):
        self.scene = Scene()

    def assert_world(self, number, money, turns, held=(300, 300, 300, 300), burnt=0):
        answer = self.scene.peek(world(number))
        contracts = len(money) - 6
        self.assertEqual(answer, [len(money)] + list(money) + list(turns) + list(held) + [burnt, contracts])
        self.assertEqual(sum(money) + sum(held) + burnt, 7200)

    def test_block_0(self):
        self.assertEqual(ask_all([world(0)]), [FIRST])
        self.scene.block(0, pay(1, 0, 2, 5))
        self.assertEqual(self.scene.peek(world(0)), FIRST)

    def test_no_such_block(self):
        for number in (1, ANY):
            self.assertEqual(ask_all([world(number)]), [[-3]])
        self.scene.block(0)
        self.assertEqual(self.scene.peek(world(1)), FIRST)
        for number in (2, ANY):
            self.assertEqual(self.scene.peek(world(number)), [-3])

    def test_payments(self):
        self.scene.block(0, pay(1, 0, 2, 300, 40, 2), pay(3, 0, 3, 50, 10, 1), pay(1, 1, 4, 100))
        self.assert_world(1, [580, 1300, 990, 1100, 1000, 1030], [2, 0, 1, 0, 0, 0])

    def test_the_maker(self):
        self.scene.block(0, pay(1, 0, 2, 300, 40, 2), maker=1)
        self.assert_world(1, [700, 1300, 1000, 1000, 1000, 1000], [1, 0, 0, 0, 0, 0])

    def test_payments_that_cannot_be(self):
        self.scene.block(0, pay(1, 0, 7, 300, 40, 2), pay(5, 0, 0, 0, 10, 1))
        self.assert_world(1, [920, 1000, 1000, 1000, 990, 1090], [1, 0, 0, 0, 1, 0])

    def test_contracts(self):
        self.scene.block(0, new_contract(1, 0, 100, [], 30, 2), new_contract(2, 0, 0), new_contract(1, 1, 7, [16]))
        self.assert_world(1, [873, 1000, 1000, 1000, 1000, 1020, 100, 0, 7], [2, 1, 0, 0, 0, 0])

    def test_a_ninth_contract(self):
        self.scene.block(0, *[new_contract(1, at, 10 + at) for at in range(8)])
        self.assert_world(1, [892] + [1000] * 5 + list(range(10, 18)), [8, 0, 0, 0, 0, 0])
        self.scene.block(1, new_contract(2, 0, 10, [], 20, 3))
        self.assert_world(2, [892, 940, 1000, 1000, 1000, 1060] + list(range(10, 18)), [8, 1, 0, 0, 0, 0])

    def test_a_call_that_is_done(self):
        self.scene.block(0, new_contract(1, 0, 100, paying([1, 30])))
        self.scene.block(1, pay(2, 0, 7, 20, 50, 2))
        self.assert_world(2, [900, 1000 - 20 - 34, 1000, 1000, 1030, 1034, 90], [1, 1, 0, 0, 0, 0])

    def test_a_call_that_is_taken_back(self):
        for ending, used, how in (([16], 18, 1), ([22], 18, 2), ([1, 5, 12], 50, 3)):
            self.scene = Scene()
            self.scene.block(0, new_contract(1, 0, 100, paying([1, 30]) + ending))
            self.scene.block(1, pay(2, 0, 7, 20, 50, 2))
            self.assertEqual(self.scene.endings(2), [(how, 0, used)])
            self.assert_world(2, [900, 1000 - 2 * used, 1000, 1000, 1000, 1000 + 2 * used, 100], [1, 1, 0, 0, 0, 0])

    def test_money_between_contracts(self):
        sending = [1, 8, 1, 12, 14, 1, 8, 1, 0, 1, 30, 15]
        self.scene.block(0, new_contract(1, 0, 100, sending), new_contract(1, 1, 5, paying([18])))
        self.scene.block(1, pay(2, 0, 7, 20, 100, 0))
        self.assert_world(2, [895, 980, 1000, 1000, 1047, 1000, 78, 0], [2, 1, 0, 0, 0, 0])

    def test_proofs(self):
        self.scene.tower(0, 3)
        self.scene.tower(0, 3)
        for validator in (2, 4):
            for target in (3, 6):
                self.scene.ask(vote(validator, 0, target))
        first = self.scene.block(0, order(5, 0, 2, 0, 0, 30, 1, [2, 0, 3, 0, 6]))
        self.assert_world(first, [1000, 1000, 1000, 1000, 1140, 1010], [0, 0, 0, 0, 1, 0], (300, 0, 300, 300), 150)
        second = self.scene.block(first, order(2, 0, 2, 0, 0, 30, 1, [4, 0, 3, 0, 6]))
        self.assert_world(second, [1000, 1140, 1000, 1000, 1140, 1020], [0, 1, 0, 0, 1, 0], (300, 0, 300, 0), 300)
        again = self.scene.block(second, order(1, 0, 2, 0, 0, 30, 1, [4, 0, 3, 0, 6]))
        self.assert_world(again, [970, 1140, 1000, 1000, 1140, 1050], [1, 1, 0, 0, 1, 0], (300, 0, 300, 0), 300)
        fork = self.scene.block(first, order(1, 0, 2, 0, 50, 30, 1, [4, 0, 3, 0, 3]))
        self.assert_world(fork, [970, 1000, 1000, 1000, 1140, 1040], [1, 0, 0, 0, 1, 0], (300, 0, 300, 300), 150)

    def test_forks(self):
        self.scene.block(0, pay(1, 0, 2, 100), new_contract(3, 0, 40))
        self.scene.block(0, pay(1, 0, 3, 200))
        self.scene.block(1, pay(1, 1, 7, 10))
        self.scene.block(2, new_contract(1, 1, 20), new_contract(2, 0, 30))
        self.assert_world(1, [900, 1100, 960, 1000, 1000, 1000, 40], [1, 0, 1, 0, 0, 0])
        self.assert_world(2, [800, 1000, 1200, 1000, 1000, 1000], [1, 0, 0, 0, 0, 0])
        self.assert_world(3, [890, 1100, 960, 1000, 1000, 1000, 50], [2, 0, 1, 0, 0, 0])
        self.assert_world(4, [780, 970, 1200, 1000, 1000, 1000, 20, 30], [2, 1, 0, 0, 0, 0])
        self.assertEqual(self.scene.peek(world(0)), FIRST)

    def test_not_right(self):
        self.scene.block(0, pay(1, 0, 2, 100))
        for call in (pay(1, 1, 2, 100), new_contract(1, 2, 50), pay(4, 9, 2, 1)):
            self.scene.ask(call)
        below = self.scene.peek(world(1))
        self.assertEqual(self.scene.ask(force(1, 6, [1, 2, 3])), [2, 0])
        self.assertEqual(self.scene.peek(world(2)), below)
        self.assertEqual(self.scene.ask(force(2, 6, [3])), [3, 0])
        self.assertEqual(self.scene.peek(world(3)), below)
        self.assertEqual(self.scene.ask(force(3, 6, [1, 2])), [4, 1])
        self.assert_world(4, [750, 1200, 1000, 1000, 1000, 1000, 50], [3, 0, 0, 0, 0, 0])
        for number in (1, 2, 3):
            self.assertEqual(self.scene.peek(world(number)), below)

    def test_behind_a_block_that_a_node_made(self):
        for at, each in enumerate((pay(1, 0, 2, 100, 20, 1), new_contract(2, 0, 30, [], 10, 4))):
            self.scene.ask(each)
            self.scene.ask(tell(3, at))
        self.scene.ask(make(3, 5))
        self.assert_world(1, [890, 1030, 1000, 1000, 1050, 1000, 30], [1, 1, 0, 0, 0, 0])

    def test_the_money_told_is_what_can_be_ordered(self):
        self.scene.block(0, pay(1, 0, 2, 313, 40, 2), new_contract(3, 0, 77, [], 20, 5))
        told = self.scene.world(1)
        for person in (1, 3):
            money = told.money[person - 1]
            number = told.turns[person - 1]
            self.assertTrue(self.scene.would_fit(1, pay(person, number, 4, money)))
            self.assertFalse(self.scene.would_fit(1, pay(person, number, 4, money + 1)))
            self.assertFalse(self.scene.would_fit(1, pay(person, number + 1, 4, money)))


if __name__ == "__main__":
    unittest.main()
