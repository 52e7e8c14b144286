"""How an order ended, and what was burnt: no call tells these yet, so the package's own functions are asked."""

import unittest

from blockchainbooks.orders import Order, do_order
from blockchainbooks.state import State


def done(state, person, kind, to, value, gas, numbers=(), proven=False):
    order = Order([person, state.turns[person], kind, to, value, gas, 1], list(numbers))
    order.proven = proven
    return tuple(do_order(state, order, 6))


def all_money(state):
    return sum(state.money.values()) + sum(state.held.values()) + state.burnt


class EndingTest(unittest.TestCase):
    def setUp(self):
        self.state = State()

    def called(self, code, gas=100, arguments=()):
        contract = done(self.state, 1, 1, 0, 20, 10, code)[1]
        return done(self.state, 2, 0, contract, 5, gas, arguments)

    def tearDown(self):
        self.assertEqual(all_money(self.state), 7200)

    def test_money_to_a_person(self):
        self.assertEqual(done(self.state, 1, 0, 2, 5, 40), (0, 0, 10))

    def test_contracts(self):
        for contract in range(7, 15):
            self.assertEqual(done(self.state, 1, 1, 0, 5, 40, [1, 3, 17]), (0, contract, 10))
        self.assertEqual(done(self.state, 1, 1, 0, 5, 40, [1, 3, 17]), (4, 0, 40))

    def test_calls_that_are_done(self):
        self.assertEqual(self.called([]), (0, 0, 10))
        self.assertEqual(self.called([1, 3, 0]), (0, 0, 12))
        self.assertEqual(self.called([1, 3, 17]), (0, 3, 12))
        self.assertEqual(self.called([1, 1, 11, 17], 13, [8, 9]), (0, 9, 13))

    def test_calls_that_are_taken_back(self):
        self.assertEqual(self.called([16]), (1, 0, 11))
        self.assertEqual(self.called([1, 3, 16]), (1, 0, 12))
        for code, used in (([22], 11), ([2], 11), ([1], 11), ([1, 3, 1, 4, 3], 13), ([9] * 13, 23)):
            self.assertEqual(self.called(code), (2, 0, used))
        for code in ([1, 0, 12], [1, 1, 1, 1, 8]):
            self.assertEqual(self.called(code, 16), (3, 0, 16))
            self.state = State()

    def test_less_gas_is_told_ahead_of_all_else(self):
        for instruction in (2, 8, 14, 15, 16, 22, 999999):
            self.assertEqual(self.called([instruction], 10), (3, 0, 10))
            self.state = State()
        self.assertEqual(self.called([1], 10), (3, 0, 10))

    def test_what_cannot_be_paid(self):
        for to in (0, 7, 4294967295):
            self.assertEqual(done(self.state, 1, 0, to, 5, 40), (4, 0, 40))

    def test_proofs(self):
        numbers = [3, 0, 3, 0, 6]
        self.assertEqual(done(self.state, 5, 2, 0, 0, 40, numbers, False), (4, 0, 40))
        self.assertEqual((self.state.held[3], self.state.burnt), (300, 0))
        self.assertEqual(done(self.state, 5, 2, 0, 0, 40, numbers, True), (0, 3, 10))
        self.assertEqual((self.state.held[3], self.state.burnt), (0, 150))
        self.assertEqual(done(self.state, 5, 2, 0, 0, 40, numbers, True), (4, 0, 40))
        self.assertEqual((self.state.held[3], self.state.burnt), (0, 150))

    def test_half_is_rounded_down(self):
        self.state.held[3] = 1
        self.state.money[1] += 299
        done(self.state, 5, 2, 0, 0, 10, [3, 0, 3, 0, 6], True)
        self.assertEqual((self.state.money[5], self.state.held[3], self.state.burnt), (990, 0, 1))

    def test_a_twin_shares_nothing(self):
        self.called([1, 3, 1, 44, 8])
        self.state.burnt = 1
        self.state.money[1] -= 1
        other = self.state.twin()
        self.assertEqual((other.burnt, all_money(other), other.slots), (1, 7200, {7: {3: 44}}))
        done(other, 2, 0, 7, 5, 100)
        done(other, 2, 1, 0, 5, 10)
        done(other, 5, 2, 0, 0, 10, [1, 0, 3, 0, 6], True)
        other.slots[7][9] = 9
        self.assertEqual((self.state.burnt, self.state.held[1], self.state.turns[2]), (1, 300, 1))
        self.assertEqual((len(self.state.codes), self.state.slots), (1, {7: {3: 44}}))


if __name__ == "__main__":
    unittest.main()
