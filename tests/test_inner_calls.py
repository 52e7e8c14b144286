"""Instruction 15: a contract calls another one, or itself."""

import unittest

from tests.helper import Trial, order, paying, showing

# What's done behind 15 to keep only what it's done with, or only whether it was done.
RESULT = [20, 21]
WENT_WELL = [21]


def call(contract, argument=0, value=0):
    return [1, contract, 1, argument, 1, value, 15]


class CallTest(unittest.TestCase):
    def assert_result(self, callee, expected, argument=0, value=0, funds=0, **about):
        about["others"] = [(callee, funds)]
        trial = Trial(showing(call(8, argument, value) + RESULT, expected), **about)
        self.assertEqual((trial.done, trial.paid), (True, 1))
        trial = Trial(paying(call(8, argument, value) + WENT_WELL), **about)
        self.assertEqual((trial.done, trial.paid), (True, 1))

    def test_what_it_is_done_with(self):
        self.assert_result([1, 33, 17], 33)
        self.assert_result([1, 999999, 17, 16], 999999)
        self.assert_result([1, 33, 0], 0)
        self.assert_result([1, 33], 0)
        self.assert_result([], 0)
        self.assert_result([1, 99, 12, 16], 0)

    def test_what_it_is_called_with(self):
        self.assert_result([1, 0, 11, 17], 76, argument=76)
        self.assert_result([1, 1, 11, 17], 0, argument=76, arguments=[5, 6, 7])
        self.assert_result([10, 17], 44, value=44)
        self.assert_result([9, 17], 7)

    def test_the_value_is_moved_first(self):
        self.assert_result([18, 17], 64, value=44, funds=20)
        trial = Trial(call(8, 0, 44) + [1, 4, 18, 14], money=100, value=1, others=[(paying([18]), 20)])
        self.assertEqual((trial.done, trial.paid, trial.paid_4), (True, 64, 57))

    def test_all_it_has_may_be_the_value(self):
        trial = Trial(call(8, 0, 101), money=100, value=1, others=[(paying([18]), 0)])
        self.assertEqual((trial.done, trial.paid), (True, 101))

    def test_the_gas_goes_on(self):
        trial = Trial(call(8) + [0], others=[([1, 1, 1, 1, 8, 0], 0)])
        self.assertEqual((trial.done, trial.used), (True, 10 + 3 + 10 + 8 + 1))
        trial = Trial(call(8) + [0], gas=32, others=[([1, 1, 1, 1, 8, 0], 0)])
        self.assertEqual((trial.done, trial.used), (True, 32))
        trial = Trial(call(8) + [0], gas=31, others=[([1, 1, 1, 1, 8, 0], 0)])
        self.assertEqual((trial.done, trial.used), (False, 31))

    def test_no_gas_is_left_for_it(self):
        trial = Trial(call(8), gas=23, others=[([], 0)])
        self.assertEqual((trial.done, trial.used), (True, 23))
        trial = Trial(call(8), gas=23, others=[([0], 0)])
        self.assertEqual((trial.done, trial.used), (True, 23))

    def test_its_slots_are_its_own(self):
        write = [1, 3, 1, 44, 8]
        read = [1, 3, 7]
        trial = Trial(write + paying(call(8) + RESULT), others=[(read + [17], 0)])
        self.assertEqual((trial.done, trial.paid), (True, 0))
        trial = Trial(call(8) + paying(read), others=[(write, 0)])
        self.assertEqual((trial.done, trial.paid), (True, 0))
        trial = Trial(call(8) + paying(call(9) + RESULT), others=[(write, 0), (read + [17], 0)])
        self.assertEqual((trial.done, trial.paid), (True, 0))

    def test_what_it_did_stays(self):
        counting = [1, 3, 1, 3, 7, 1, 1, 2, 8, 1, 3, 7, 17]
        trial = Trial(call(8) + [21, 21] + paying(call(8) + RESULT), others=[(counting, 0)])
        self.assertEqual((trial.done, trial.paid), (True, 2))
        later = trial.scene.block(trial.behind, order(2, 1, 0, 7, 1, 200, 0))
        self.assertEqual(trial.scene.money(later, 5) - 1000, 2 + 4)

    def test_itself(self):
        # Without an argument it calls itself with one, else it pays out what it was called with and by whom.
        outer = call(7, 6, 101) + [0]
        inner = paying([10]) + [1, 4, 9, 14]
        trial = Trial([1, 0, 11, 1, 6 + len(outer), 13] + outer + inner, money=120, value=1)
        self.assertEqual((trial.done, trial.paid, trial.paid_4), (True, 101, 7))

    def test_back_to_the_first(self):
        # 7 writes 40 into its slot and calls 8; 8 calls 7 with an argument; that adds 1 to the slot.
        inner = [1, 3, 19, 7, 1, 1, 2, 8]
        outer = [1, 3, 1, 40, 8] + call(8) + paying([1, 3, 7]) + [0]
        code = [1, 0, 11, 1, 6 + len(outer), 13] + outer + inner
        trial = Trial(code, others=[(call(7, 1), 0)])
        self.assertEqual((trial.done, trial.paid), (True, 41))


class CannotBeCalledTest(unittest.TestCase):
    def assert_nothing(self, code, others=(), used=None):
        for rest in (RESULT, WENT_WELL):
            trial = Trial(showing(code + rest, 0), money=100, others=others)
            self.assertEqual((trial.done, trial.paid), (True, 1))
            if used is not None:
                self.assertEqual(trial.used, used + 18 + len(rest))

    def test_no_such_contract(self):
        for contract in (0, 1, 6, 9, 999999):
            self.assert_nothing(call(contract), others=[([1, 3, 17], 0)], used=13)

    def test_not_so_much(self):
        self.assert_nothing(call(8, 0, 102), others=[([1, 3, 17], 0)], used=13)
        self.assert_nothing(call(7, 0, 102), used=13)

    def test_no_money_goes_to_a_person(self):
        trial = Trial(call(5, 0, 20) + call(4, 0, 0))
        self.assertEqual((trial.done, trial.paid, trial.paid_4), (True, 0, 0))

    def test_it_is_taken_back(self):
        for callee, used in (([16], 1), ([1, 3, 16], 2), ([22], 1), ([2], 1), ([1, 3, 1, 4, 3, 17], 3)):
            self.assert_nothing(call(8, 0, 1), others=[(callee, 0)], used=13 + used)

    def test_what_was_put_ahead_is_still_there(self):
        trial = Trial([1, 5, 1, 20] + call(8) + [21, 21, 14], others=[([16], 0)])
        self.assertEqual((trial.done, trial.paid), (True, 20))
        trial = Trial([1, 5, 1, 20] + call(9) + [21, 21, 21, 21, 21])
        self.assertFalse(trial.done)

    def test_no_gas_is_left_behind_one_that_had_too_little(self):
        endless = [1, 0, 12]
        trial = Trial(call(8), others=[(endless, 0)])
        self.assertEqual((trial.done, trial.used), (True, 200))
        trial = Trial(call(8) + [0], others=[(endless, 0)])
        self.assertEqual((trial.done, trial.used), (False, 200))
        trial = Trial(call(8) + [0], gas=30, others=[([1, 1, 1, 1, 8], 0)])
        self.assertEqual((trial.done, trial.used), (False, 30))
        trial = Trial(call(8), gas=29, others=[([1, 1, 1, 1, 8], 0)])
        self.assertEqual((trial.done, trial.used), (True, 29))

    def test_gas_is_left_behind_one_that_was_taken_back_otherwise(self):
        trial = Trial(call(8) + [0], gas=25, others=[([16], 0)])
        self.assertEqual((trial.done, trial.used), (True, 25))


class AllIsAsItWasTest(unittest.TestCase):
    def test_the_money_and_the_slots(self):
        # 8 writes its slot and pays, then gives up; with an argument it tells its slot.
        spoil = [1, 3, 1, 44, 8] + paying([1, 9]) + [16]
        code = [1, 0, 11, 1, 6 + len(spoil), 13] + spoil + [1, 3, 7, 17]
        trial = Trial(call(8, 0, 50) + [21, 21] + paying(call(8, 1) + RESULT) + [1, 4, 18, 14],
                      money=100, value=1, others=[(code, 30)])
        self.assertEqual((trial.done, trial.paid, trial.paid_4), (True, 0, 101))

    def test_what_the_caller_did_ahead_stays(self):
        ahead = [1, 3, 1, 44, 8] + paying([1, 9])
        trial = Trial(ahead + call(8) + [21, 21] + [1, 4, 1, 3, 7, 14], others=[([16], 0)])
        self.assertEqual((trial.done, trial.paid, trial.paid_4), (True, 9, 44))

    def test_the_callers_slots_changed_within(self):
        # 8 has 7 change its slot and pay, then gives up.
        inner = [1, 3, 1, 55, 8] + paying([1, 9])
        outer = [1, 3, 1, 44, 8] + call(8) + [21, 21] + [1, 4, 1, 3, 7, 14, 0]
        code = [1, 0, 11, 1, 6 + len(outer), 13] + outer + inner
        trial = Trial(code, others=[(call(7, 1) + [16], 0)])
        self.assertEqual((trial.done, trial.paid, trial.paid_4), (True, 0, 44))
        trial = Trial(code, others=[(call(7, 1) + [0], 0)])
        self.assertEqual((trial.done, trial.paid, trial.paid_4), (True, 9, 55))

    def test_what_was_done_within_what_is_taken_back(self):
        # 8 calls 9, which pays and is done; then 8 gives up: 9 has paid nothing.
        trial = Trial(call(8) + [1, 4, 1, 6, 14], others=[(call(9) + [16], 0), (paying([1, 9]), 20)])
        self.assertEqual((trial.done, trial.paid, trial.paid_4), (True, 0, 6))
        trial = Trial(call(8) + [1, 4, 1, 6, 14], others=[(call(9) + [0], 0), (paying([1, 9]), 20)])
        self.assertEqual((trial.done, trial.paid, trial.paid_4), (True, 9, 6))

    def test_the_whole_call_is_taken_back_behind_one_that_was_done(self):
        trial = Trial(call(8, 0, 10) + [16], others=[(paying([1, 9]), 20)])
        self.assertEqual((trial.done, trial.paid, trial.lost), (False, 0, 0))
        later = trial.scene.block(trial.behind, order(2, 1, 0, 8, 0, 100, 0))
        self.assertEqual(trial.scene.money(later, 5) - 1000, 9)


class FourDeepTest(unittest.TestCase):
    def passing(self, contract):
        return (call(contract) + [17], 0)

    def test_four_deep(self):
        trial = Trial(paying(call(8) + RESULT), others=[self.passing(9), self.passing(10), ([1, 77, 17], 0)])
        self.assertEqual((trial.done, trial.paid), (True, 77))

    def test_not_in_the_fourth(self):
        others = [self.passing(9), self.passing(10), self.passing(11), ([1, 77, 17], 0)]
        trial = Trial(paying(call(8) + RESULT), others=others)
        self.assertEqual((trial.done, trial.paid), (True, 0))
        self.assertEqual(trial.used, 10 + 1 + 13 * 4 + 1 + 1 + 2 + 5)

    def test_the_fourth_is_taken_back_whatever_it_calls(self):
        for contract, value in ((999, 0), (10, 0), (7, 900)):
            fourth = (paying([1, 9]) + call(contract, 0, value), 50)
            third = (call(10) + WENT_WELL + [17], 0)
            trial = Trial(showing(call(8) + RESULT, 0), others=[self.passing(9), third, fourth])
            self.assertEqual((trial.done, trial.paid), (True, 1))
        fourth = (paying([1, 9]) + [1, 3, 17], 50)
        third = (call(10) + WENT_WELL + [17], 0)
        trial = Trial(showing(call(8) + RESULT, 1), others=[self.passing(9), third, fourth])
        self.assertEqual((trial.done, trial.paid), (True, 10))

    def test_one_behind_another_may_be_many(self):
        trial = Trial((call(8) + [21, 21]) * 3 + paying(call(8) + RESULT), others=[([1, 3, 17], 0)])
        self.assertEqual((trial.done, trial.paid), (True, 3))

    def test_itself_until_it_is_too_deep(self):
        # Each pays 1 and calls itself: the fourth is taken back, the three above it are not.
        trial = Trial(paying([1, 1]) + call(7), money=100)
        self.assertEqual((trial.done, trial.paid), (True, 3))
        self.assertEqual(trial.used, 10 + 4 * (7 + 13))


if __name__ == "__main__":
    unittest.main()
