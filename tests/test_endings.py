"""How each order of a block ended: for each kind of order each way to end, with what, and how much gas was used."""

import unittest

from blockchainbooks.orders import Order, do_order
from blockchainbooks.state import State
from tests.helper import ANY, Scene, force, make, order, tell, vote


def pay(person, number, to, value=5, gas=40, numbers=(), price=1):
    return order(person, number, 0, to, value, gas, price, numbers)


def new_contract(person, number, code, value=5, gas=10, price=1):
    return order(person, number, 1, 0, value, gas, price, code)


def call(contract, argument=0, value=0):
    return [1, contract, 1, argument, 1, value, 15]


class EndingTest(unittest.TestCase):
    def setUp(self):
        self.scene = Scene()

    def ended(self, *orders, below=0):
        """How these orders end, in one block."""
        block = self.scene.block(below, *orders)
        self.assertEqual(self.scene.world(block).all_money(), 7200)
        return self.scene.endings(block)

    def called(self, code, gas=100, arguments=(), others=()):
        """How a call of contract 7 with that code ends; others are the codes of 8 and on."""
        self.scene = Scene()
        made = [new_contract(1, at, each) for at, each in enumerate([code] + list(others))]
        return self.ended(pay(2, 0, 7, 5, gas, arguments), below=self.scene.block(0, *made))[0]


class PaymentEndingTest(EndingTest):
    def test_to_a_person(self):
        for to in range(1, 7):
            self.assertEqual(self.ended(pay(1, 0, to)), [(0, 0, 10)])
        self.assertEqual(self.ended(pay(1, 0, 2, 0, 10)), [(0, 0, 10)])
        self.assertEqual(self.ended(pay(1, 0, 2, 5, 200, [1, 2, 3])), [(0, 0, 10)])

    def test_to_nobody(self):
        for to in (0, 7, 14, ANY):
            for value in (0, 5):
                self.assertEqual(self.ended(pay(1, 0, to, value)), [(4, 0, 40)])
        self.assertEqual(self.ended(pay(1, 0, 7, 5, 10)), [(4, 0, 10)])

    def test_to_a_contract_that_comes_later(self):
        orders = (pay(1, 0, 7), new_contract(2, 0, []), pay(1, 1, 7))
        self.assertEqual(self.ended(*orders), [(4, 0, 40), (0, 7, 10), (0, 0, 10)])


class CallEndingTest(EndingTest):
    def test_done(self):
        self.assertEqual(self.called([]), (0, 0, 10))
        self.assertEqual(self.called([], 10), (0, 0, 10))
        self.assertEqual(self.called([0]), (0, 0, 11))
        self.assertEqual(self.called([1, 3]), (0, 0, 11))
        self.assertEqual(self.called([1, 3, 0]), (0, 0, 12))
        self.assertEqual(self.called([1, 99, 12]), (0, 0, 12))

    def test_done_with_a_number(self):
        self.assertEqual(self.called([1, 3, 17]), (0, 3, 12))
        self.assertEqual(self.called([1, 0, 17]), (0, 0, 12))
        self.assertEqual(self.called([1, 999999, 17]), (0, 999999, 12))
        self.assertEqual(self.called([1, 1, 11, 17], 13, [8, 9]), (0, 9, 13))
        self.assertEqual(self.called([9, 17]), (0, 2, 12))
        self.assertEqual(self.called([10, 17]), (0, 5, 12))
        self.assertEqual(self.called([18, 17]), (0, 10, 12))

    def test_it_gives_up(self):
        self.assertEqual(self.called([16]), (1, 0, 11))
        self.assertEqual(self.called([1, 3, 16]), (1, 0, 12))
        self.assertEqual(self.called([1, 3, 1, 4, 8, 16]), (1, 0, 18))

    def test_it_fails(self):
        fails = (([22], 11), ([999999], 11), ([2], 11), ([17], 11), ([21], 11), ([8], 15), ([14], 15), ([15], 20),
                 ([1], 11), ([1, 3, 1], 12), ([1, 3, 1, 4, 3], 13), ([9] * 13, 23), ([1, 7, 1, 11, 14], 17),
                 ([1, 0, 1, 0, 14], 17))
        for code, used in fails:
            self.assertEqual(self.called(code), (2, 0, used), code)

    def test_too_little_gas(self):
        for gas in (10, 11, 12, 13, 200):
            self.assertEqual(self.called([1, 0, 12], gas), (3, 0, gas))
        for gas in range(12, 17):
            self.assertEqual(self.called([1, 1, 1, 1, 8], gas), (3, 0, gas))
        self.assertEqual(self.called([1, 1, 1, 1, 8], 17), (0, 0, 17))

    def test_too_little_gas_is_told_ahead_of_all_else(self):
        for instruction in (1, 2, 8, 14, 15, 16, 17, 22, 999999):
            self.assertEqual(self.called([instruction], 10), (3, 0, 10))

    def test_calls_within(self):
        answering = [1, 33, 17]
        self.assertEqual(self.called(call(8) + [17], 100, (), [answering]), (0, 33, 10 + 13 + 2 + 1))
        self.assertEqual(self.called(call(8) + [21, 17], 100, (), [answering]), (0, 1, 10 + 13 + 2 + 2))
        for code, used in (([16], 1), ([22], 1), ([1, 3, 21, 21], 3)):
            self.assertEqual(self.called(call(8) + [17], 100, (), [code]), (0, 0, 10 + 13 + used + 1))
            self.assertEqual(self.called(call(8) + [21, 17], 100, (), [code]), (0, 0, 10 + 13 + used + 2))

    def test_calls_within_that_had_too_little_gas(self):
        endless = [1, 0, 12]
        self.assertEqual(self.called(call(8), 100, (), [endless]), (0, 0, 100))
        self.assertEqual(self.called(call(8) + [17], 100, (), [endless]), (3, 0, 100))

    def test_taken_back_behind_a_call_that_was_done(self):
        self.assertEqual(self.called(call(8) + [16], 100, (), [[]]), (1, 0, 24))
        self.assertEqual(self.called(call(8) + [22], 100, (), [[]]), (2, 0, 24))

    def test_four_deep(self):
        # It's done with 1 if the fourth was done, else with 0.
        first = call(8) + [17]
        others = [call(9) + [17], call(10) + [21, 17]]
        self.assertEqual(self.called(first, 200, (), others + [[]]), (0, 1, 10 + 3 * 13 + 4))
        self.assertEqual(self.called(first, 200, (), others + [call(11), []]), (0, 0, 10 + 4 * 13 + 4))


class ContractEndingTest(EndingTest):
    def test_done_with_its_number(self):
        orders = [new_contract(1, at, [16]) for at in range(8)]
        self.assertEqual(self.ended(*orders), [(0, contract, 10) for contract in range(7, 15)])
        self.assertEqual(self.ended(new_contract(1, 0, [], 0, 200)), [(0, 7, 10)])

    def test_too_many(self):
        below = self.scene.block(0, *[new_contract(1, at, []) for at in range(8)])
        self.assertEqual(self.ended(new_contract(1, 8, [], 5, 60), below=below), [(4, 0, 60)])
        self.assertEqual(self.ended(new_contract(2, 0, [], 0, 10), below=below), [(4, 0, 10)])

    def test_each_fork_numbers_its_own(self):
        self.assertEqual(self.ended(new_contract(1, 0, [])), [(0, 7, 10)])
        self.assertEqual(self.ended(new_contract(2, 0, [])), [(0, 7, 10)])


class ProofEndingTest(EndingTest):
    def setUp(self):
        """Posts 3 and 6 stand on 0; validators 3 and 4 voted to both."""
        self.scene = Scene()
        self.scene.tower(0, 3)
        self.scene.tower(0, 3)
        for validator in (3, 4):
            for target in (3, 6):
                self.scene.ask(vote(validator, 0, target))

    def proof(self, number, numbers, gas=40):
        return order(5, number, 2, 0, 100, gas, 1, numbers)

    def test_done_with_the_validator(self):
        self.assertEqual(self.ended(self.proof(0, [3, 0, 3, 0, 6])), [(0, 3, 10)])
        self.assertEqual(self.ended(self.proof(0, [4, 0, 6, 0, 3])), [(0, 4, 10)])

    def test_nothing_is_held_any_more(self):
        orders = [self.proof(0, [3, 0, 3, 0, 6]), self.proof(1, [3, 0, 3, 0, 6], 70), self.proof(2, [4, 0, 3, 0, 6])]
        self.assertEqual(self.ended(*orders), [(0, 3, 10), (4, 0, 70), (0, 4, 10)])

    def test_not_against_one_another(self):
        self.assertEqual(self.ended(self.proof(0, [3, 0, 3, 0, 3])), [(4, 0, 40)])

    def test_half_is_rounded_down(self):
        # No call leads to anything but 300 or nothing held, so the function is asked.
        state = State()
        state.held[3] = 1
        proof = Order([5, 0, 2, 0, 0, 10, 0], [3, 0, 3, 0, 6])
        proof.proven = True
        self.assertEqual(tuple(do_order(state, proof, 6)), (0, 3, 10))
        self.assertEqual((state.money[5], state.held[3], state.burnt), (1000, 0, 1))


class SeveralTest(EndingTest):
    def test_in_the_order_in_which_they_were_done(self):
        code = [1, 0, 11, 12, 0, 16, 22, 1, 9, 17, 1, 10, 12]
        orders = [new_contract(1, 0, code)] + [pay(2, at, 7, 1, 40, [to]) for at, to in enumerate((4, 5, 6, 7, 10))]
        expected = [(0, 7, 10), (0, 0, 14), (1, 0, 14), (2, 0, 14), (0, 9, 15), (3, 0, 40)]
        self.assertEqual(self.ended(*orders, pay(3, 0, 9)), expected + [(4, 0, 40)])

    def test_of_a_block_that_a_node_made(self):
        orders = (pay(1, 0, 2, 5, 40, (), 1), pay(2, 0, 99, 5, 50, (), 2), new_contract(3, 0, [16], 5, 20, 3),
                  pay(4, 0, 7, 5, 60, (), 0))
        for at, each in enumerate(orders):
            self.scene.ask(each)
            self.scene.ask(tell(1, at))
        self.assertEqual(self.scene.ask(make(1, 6)), [1, 0, 4, 2, 1, 0, 3])
        self.assertEqual(self.scene.endings(1), [(0, 7, 10), (4, 0, 50), (0, 0, 10), (1, 0, 11)])

    def test_the_same_orders_may_end_otherwise_on_a_fork(self):
        numbers = [self.scene.ask(each)[0] for each in (new_contract(1, 0, [18, 17]), pay(2, 0, 7))]
        self.scene.ask(force(0, 6, numbers))
        self.scene.ask(force(0, 6, numbers[::-1]))
        self.assertEqual(self.scene.endings(1), [(0, 7, 10), (0, 10, 12)])
        self.assertEqual(self.scene.endings(2), [(4, 0, 40), (0, 7, 10)])


if __name__ == "__main__":
    unittest.main()
