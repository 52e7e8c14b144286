"""Orders: when one fits, what each kind does, what goes to the maker and back to the person."""

import unittest

from tests.helper import Scene, force, order, paying, vote


def pay(person, number, to, value, gas=10, price=0, numbers=()):
    return order(person, number, 0, to, value, gas, price, numbers)


def contract(person, number, value, code=(), gas=10, price=0, to=0):
    return order(person, number, 1, to, value, gas, price, code)


def wealth(scene, block):
    return [scene.money(block, person) for person in range(1, 7)]


class AtFirstTest(unittest.TestCase):
    def test_everybody_has_1000_and_next_is_0(self):
        scene = Scene()
        self.assertEqual(wealth(scene, 0), [1000] * 6)
        self.assertEqual([scene.turn(0, person) for person in range(1, 7)], [0] * 6)

    def test_there_are_no_contracts(self):
        scene = Scene()
        block = scene.block(0, pay(1, 0, 7, 5, 20, 1))
        self.assertEqual(wealth(scene, block), [980, 1000, 1000, 1000, 1000, 1020])


class FitsTest(unittest.TestCase):
    def setUp(self):
        self.scene = Scene()

    def test_the_number_that_is_next(self):
        self.assertTrue(self.scene.would_fit(0, pay(1, 0, 2, 0)))
        for number in (1, 2, 4294967295):
            self.assertFalse(self.scene.would_fit(0, pay(1, number, 2, 0)))
        block = self.scene.block(0, pay(1, 0, 2, 0), pay(1, 1, 2, 0), pay(2, 0, 1, 0))
        self.assertEqual([self.scene.turn(block, person) for person in range(1, 7)], [2, 1, 0, 0, 0, 0])
        self.assertFalse(self.scene.would_fit(block, pay(1, 0, 2, 0)))
        self.assertFalse(self.scene.would_fit(block, pay(1, 1, 2, 0)))
        self.assertFalse(self.scene.would_fit(block, pay(1, 3, 2, 0)))

    def test_the_value_and_the_gas_are_there(self):
        for kind in (0, 1):
            self.assertTrue(self.scene.would_fit(0, order(1, 0, kind, 2, 1000, 200, 0)))
            self.assertFalse(self.scene.would_fit(0, order(1, 0, kind, 2, 1000, 10, 1)))
            self.assertTrue(self.scene.would_fit(0, order(1, 0, kind, 2, 990, 10, 1)))
            self.assertFalse(self.scene.would_fit(0, order(1, 0, kind, 2, 991, 10, 1)))
            self.assertTrue(self.scene.would_fit(0, order(1, 0, kind, 2, 0, 50, 20)))
            self.assertFalse(self.scene.would_fit(0, order(1, 0, kind, 2, 1, 50, 20)))
            self.assertFalse(self.scene.would_fit(0, order(1, 0, kind, 2, 0, 51, 20)))
            self.assertFalse(self.scene.would_fit(0, order(1, 0, kind, 2, 0, 200, 20)))

    def test_what_was_paid_by_then_counts(self):
        block = self.scene.block(0, pay(1, 0, 2, 700))
        self.assertTrue(self.scene.would_fit(block, pay(1, 1, 3, 300)))
        self.assertFalse(self.scene.would_fit(block, pay(1, 1, 3, 301)))
        self.assertTrue(self.scene.would_fit(block, pay(2, 0, 3, 1000, 70, 10)))
        self.assertFalse(self.scene.would_fit(block, pay(2, 0, 3, 1000, 71, 10)))


class PaymentTest(unittest.TestCase):
    def setUp(self):
        self.scene = Scene()

    def test_to_a_person(self):
        block = self.scene.block(0, pay(1, 0, 2, 300))
        self.assertEqual(wealth(self.scene, block), [700, 1300, 1000, 1000, 1000, 1000])

    def test_all_that_one_has(self):
        block = self.scene.block(0, pay(1, 0, 2, 800, 10, 20))
        self.assertEqual(wealth(self.scene, block), [0, 1800, 1000, 1000, 1000, 1200])

    def test_to_oneself(self):
        block = self.scene.block(0, pay(1, 0, 1, 1000))
        self.assertEqual(wealth(self.scene, block), [1000] * 6)
        self.assertEqual(self.scene.turn(block, 1), 1)

    def test_ten_gas_go_to_the_maker_the_rest_back(self):
        block = self.scene.block(0, pay(1, 0, 2, 100, 40, 3))
        self.assertEqual(wealth(self.scene, block), [870, 1100, 1000, 1000, 1000, 1030])

    def test_the_maker_may_be_the_person_or_the_one_paid(self):
        block = self.scene.block(0, pay(1, 0, 2, 100, 40, 3), maker=1)
        self.assertEqual(wealth(self.scene, block), [900, 1100, 1000, 1000, 1000, 1000])
        block = self.scene.block(0, pay(1, 0, 2, 100, 40, 3), maker=2)
        self.assertEqual(wealth(self.scene, block), [870, 1130, 1000, 1000, 1000, 1000])

    def test_to_nobody(self):
        for to in (0, 7, 8, 4294967295):
            for value in (0, 100):
                block = self.scene.block(0, pay(1, 0, to, value, 40, 3))
                self.assertEqual(wealth(self.scene, block), [880, 1000, 1000, 1000, 1000, 1120])
                self.assertEqual(self.scene.turn(block, 1), 1)

    def test_the_numbers_mean_nothing_to_a_person(self):
        block = self.scene.block(0, pay(1, 0, 2, 300, 40, 1, [16, 22, 3]))
        self.assertEqual(wealth(self.scene, block), [690, 1300, 1000, 1000, 1000, 1010])

    def test_a_contract_is_called_with_the_numbers(self):
        below = self.scene.block(0, contract(3, 0, 0, paying([1, 1, 11])))
        block = self.scene.block(below, pay(1, 0, 7, 300, 50, 2, [10, 20, 30]))
        self.assertEqual(wealth(self.scene, block), [1000 - 300 - 36, 1000, 1000, 1000, 1020, 1036])

    def test_a_contract_is_called_with_the_gas_but_for_10(self):
        below = self.scene.block(0, contract(3, 0, 0, [0]))
        block = self.scene.block(below, pay(1, 0, 7, 300, 11, 2))
        self.assertEqual(wealth(self.scene, block), [678, 1000, 1000, 1000, 1000, 1022])
        block = self.scene.block(below, pay(1, 0, 7, 300, 10, 2))
        self.assertEqual(wealth(self.scene, block), [980, 1000, 1000, 1000, 1000, 1020])

    def test_a_contract_may_pay_maker_and_caller(self):
        below = self.scene.block(0, contract(3, 0, 100, [9, 1, 30, 14, 1, 6, 1, 20, 14]))
        block = self.scene.block(below, pay(1, 0, 7, 10, 50, 1))
        self.assertEqual(wealth(self.scene, block), [1000 - 10 - 24 + 30, 1000, 900, 1000, 1000, 1000 + 20 + 24])


class ContractTest(unittest.TestCase):
    def setUp(self):
        self.scene = Scene()

    def test_the_value_goes_to_it(self):
        block = self.scene.block(0, contract(1, 0, 200, paying([18]), 30, 2))
        self.assertEqual(wealth(self.scene, block), [780, 1000, 1000, 1000, 1000, 1020])
        block = self.scene.block(block, pay(2, 0, 7, 5, 30, 0))
        self.assertEqual(wealth(self.scene, block), [780, 995, 1000, 1000, 1205, 1020])

    def test_its_code_does_not_run_when_it_is_made(self):
        block = self.scene.block(0, contract(1, 0, 200, paying([1, 9]), 100, 1))
        self.assertEqual(wealth(self.scene, block), [790, 1000, 1000, 1000, 1000, 1010])

    def test_whatever_to_says(self):
        for to in (0, 2, 7, 4294967295):
            block = self.scene.block(0, contract(1, 0, 200, [], 10, 0, to))
            self.assertEqual(wealth(self.scene, block), [800, 1000, 1000, 1000, 1000, 1000])

    def test_they_are_numbered_as_they_were_made(self):
        block = self.scene.block(0, *[contract(1, at, 10, paying([1, at + 1])) for at in range(3)])
        for at in range(3):
            called = self.scene.block(block, pay(2, 0, 7 + at, 0, 50))
            self.assertEqual(self.scene.money(called, 5), 1001 + at)
        called = self.scene.block(block, pay(2, 0, 10, 0, 50, 1))
        self.assertEqual(wealth(self.scene, called), [970, 950, 1000, 1000, 1000, 1050])

    def test_one_made_in_the_same_block_can_be_called(self):
        block = self.scene.block(0, contract(1, 0, 20, paying([18])), pay(2, 0, 7, 3, 50))
        self.assertEqual(wealth(self.scene, block), [980, 997, 1000, 1000, 1023, 1000])

    def test_forty_numbers_of_code(self):
        code = [9, 21] * 17 + paying([1, 7]) + [0]
        self.assertEqual(len(code), 40)
        block = self.scene.block(0, contract(1, 0, 20, code), pay(2, 0, 7, 0, 60, 1))
        self.assertEqual(wealth(self.scene, block), [980, 948, 1000, 1000, 1007, 1052])

    def test_eight_at_most(self):
        block = self.scene.block(0, *[contract(1, at, 10, paying([1, 8])) for at in range(8)])
        self.assertEqual(self.scene.money(block, 1), 920)
        called = self.scene.block(block, pay(2, 0, 14, 0, 50))
        self.assertEqual(self.scene.money(called, 5), 1008)
        ninth = self.scene.block(block, contract(1, 8, 10, [], 30, 2))
        self.assertEqual(wealth(self.scene, ninth), [860, 1000, 1000, 1000, 1000, 1060])
        self.assertEqual(self.scene.turn(ninth, 1), 9)
        called = self.scene.block(ninth, pay(2, 0, 15, 5, 50, 1))
        self.assertEqual(self.scene.money(called, 2), 950)

    def test_each_fork_has_its_own(self):
        left = self.scene.block(0, contract(1, 0, 10, paying([1, 3])))
        right = self.scene.block(0, contract(2, 0, 10, paying([1, 4])))
        self.assertEqual(self.scene.money(self.scene.block(left, pay(3, 0, 7, 0, 50)), 5), 1003)
        self.assertEqual(self.scene.money(self.scene.block(right, pay(3, 0, 7, 0, 50)), 5), 1004)
        bare = self.scene.block(0, pay(3, 0, 7, 0, 50, 1))
        self.assertEqual(self.scene.money(bare, 3), 950)


class ProofTest(unittest.TestCase):
    def setUp(self):
        """Posts 3 and 9 stand on 0, 6 on 3, 12 on 9; validators 1 and 2 voted to 3 and to 9."""
        self.scene = Scene()
        self.scene.tower(self.scene.tower(0, 3), 3)
        self.scene.tower(self.scene.tower(0, 3), 3)
        for validator in (1, 2):
            for target in (3, 9):
                self.scene.ask(vote(validator, 0, target))

    def proof(self, person, number, numbers, value=0, gas=30, price=1):
        return order(person, number, 2, 0, value, gas, price, numbers)

    def test_half_goes_to_the_person(self):
        block = self.scene.block(0, self.proof(5, 0, [1, 0, 3, 0, 9]))
        self.assertEqual(wealth(self.scene, block), [1000, 1000, 1000, 1000, 1140, 1010])
        block = self.scene.block(0, self.proof(5, 0, [1, 0, 9, 0, 3]))
        self.assertEqual(wealth(self.scene, block), [1000, 1000, 1000, 1000, 1140, 1010])

    def test_nothing_is_held_any_more(self):
        block = self.scene.block(0, self.proof(5, 0, [1, 0, 3, 0, 9]))
        again = self.scene.block(block, self.proof(4, 0, [1, 0, 3, 0, 9]))
        self.assertEqual(wealth(self.scene, again), [1000, 1000, 1000, 970, 1140, 1040])
        self.assertEqual(self.scene.turn(again, 4), 1)

    def test_of_each_validator_on_its_own(self):
        block = self.scene.block(0, self.proof(5, 0, [1, 0, 3, 0, 9]), self.proof(5, 1, [2, 0, 3, 0, 9]))
        self.assertEqual(wealth(self.scene, block), [1000, 1000, 1000, 1000, 1280, 1020])

    def test_of_each_of_the_four(self):
        for validator in (3, 4):
            for target in (3, 9):
                self.scene.ask(vote(validator, 0, target))
        proofs = [self.proof(5, at, [at + 1, 0, 3, 0, 9]) for at in range(4)]
        block = self.scene.block(0, *proofs)
        self.assertEqual(wealth(self.scene, block), [1000, 1000, 1000, 1000, 1560, 1040])

    def test_on_each_fork_on_its_own(self):
        for below in (0, 1, 9):
            block = self.scene.block(below, self.proof(5, 0, [1, 0, 3, 0, 9]))
            self.assertEqual(self.scene.money(block, 5), 1140)

    def test_one_may_tell_of_oneself(self):
        block = self.scene.block(0, self.proof(1, 0, [1, 0, 3, 0, 9]), maker=1)
        self.assertEqual(wealth(self.scene, block), [1150, 1000, 1000, 1000, 1000, 1000])

    def test_the_value_stays_but_must_be_there(self):
        block = self.scene.block(0, self.proof(5, 0, [1, 0, 3, 0, 9], value=970))
        self.assertEqual(wealth(self.scene, block), [1000, 1000, 1000, 1000, 1140, 1010])
        self.assertFalse(self.scene.would_fit(0, self.proof(5, 0, [1, 0, 3, 0, 9], value=971)))

    def assert_cannot_be(self, numbers):
        block = self.scene.block(0, self.proof(5, 0, numbers, value=100))
        self.assertEqual(wealth(self.scene, block), [1000, 1000, 1000, 1000, 970, 1030])
        self.assertEqual(self.scene.turn(block, 5), 1)

    def test_the_same_vote_twice(self):
        self.assert_cannot_be([1, 0, 3, 0, 3])

    def test_not_against_one_another(self):
        self.scene.ask(vote(3, 0, 3))
        self.scene.ask(vote(3, 3, 6))
        self.scene.ask(vote(3, 0, 6))
        self.assert_cannot_be([3, 0, 3, 3, 6])
        self.assert_cannot_be([3, 3, 6, 0, 3])
        self.assert_cannot_be([3, 0, 3, 0, 6])
        self.assert_cannot_be([3, 0, 6, 3, 6])

    def test_one_around_the_other(self):
        self.scene.ask(vote(3, 3, 6))
        top = self.scene.tower(12, 3)
        self.scene.ask(vote(3, 0, top))
        for numbers in ([3, 3, 6, 0, top], [3, 0, top, 3, 6]):
            block = self.scene.block(0, self.proof(5, 0, numbers))
            self.assertEqual(self.scene.money(block, 5), 1140)


class SeveralInABlockTest(unittest.TestCase):
    def test_a_chain_of_payments(self):
        scene = Scene()
        orders = [pay(1, 0, 2, 1000), pay(2, 0, 3, 1000), pay(2, 1, 3, 1000), pay(3, 0, 4, 1000, 100, 20)]
        block = scene.block(0, *orders)
        self.assertEqual(wealth(scene, block), [0, 0, 1800, 2000, 1000, 1200])

    def test_what_the_maker_gets_can_be_paid_in_the_same_block(self):
        scene = Scene()
        first = scene.ask(pay(1, 0, 2, 0, 10, 20))[0]
        second = scene.ask(pay(6, 0, 2, 1000, 20, 10))[0]
        self.assertEqual(scene.peek(force(0, 6, [first, second]))[1], 1)
        self.assertEqual(scene.peek(force(0, 5, [first, second]))[1], 0)
        self.assertEqual(scene.peek(force(0, 6, [second, first]))[1], 0)


if __name__ == "__main__":
    unittest.main()
