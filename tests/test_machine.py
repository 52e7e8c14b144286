"""The machine, seen through what it pays, what gas it used, and whether the call was done."""

import unittest

from tests.helper import Trial, order, paying, showing

COST = {8: 5, 14: 5, 15: 10}

# For each instruction numbers to put on the stack ahead of it, lowest first, with which it goes well.
ENOUGH = {
    0: [], 1: [], 2: [3, 4], 3: [4, 3], 4: [3, 4], 5: [3, 4], 6: [3, 4], 7: [3], 8: [3, 4], 9: [], 10: [], 11: [0],
    12: [39], 13: [1, 39], 14: [5, 1], 15: [9, 0, 0], 16: [], 17: [3], 18: [], 19: [3], 20: [3, 4], 21: [3],
}

# How those end, and with what, that end otherwise than done with 0 then.
ENDS = {16: (1, 0), 17: (0, 3)}


def pushes(numbers):
    code = []
    for number in numbers:
        code += [1, number]
    return code


def with_instruction(instruction, numbers):
    tail = [instruction, 0] if instruction == 1 else [instruction]
    return pushes(numbers) + tail


class EachInstructionTest(unittest.TestCase):
    def test_with_what_it_needs(self):
        for instruction, numbers in ENOUGH.items():
            with self.subTest(instruction=instruction):
                trial = Trial(with_instruction(instruction, numbers))
                used = 10 + len(numbers) + COST.get(instruction, 1)
                self.assertEqual(trial.ending, ENDS.get(instruction, (0, 0)) + (used,))

    def test_with_less_on_the_stack(self):
        for instruction, numbers in ENOUGH.items():
            for many in range(len(numbers)):
                with self.subTest(instruction=instruction, many=many):
                    trial = Trial(with_instruction(instruction, numbers[len(numbers) - many:]))
                    self.assertEqual(trial.ending, (2, 0, 10 + many + COST.get(instruction, 1)))

    def test_with_just_enough_gas(self):
        for instruction, numbers in ENOUGH.items():
            with self.subTest(instruction=instruction):
                gas = 10 + len(numbers) + COST.get(instruction, 1)
                trial = Trial(with_instruction(instruction, numbers), gas=gas)
                self.assertEqual(trial.ending, ENDS.get(instruction, (0, 0)) + (gas,))

    def test_with_less_gas(self):
        for instruction, numbers in ENOUGH.items():
            for lack in range(1, COST.get(instruction, 1) + 1):
                with self.subTest(instruction=instruction, lack=lack):
                    gas = 10 + len(numbers) + COST.get(instruction, 1) - lack
                    trial = Trial(with_instruction(instruction, numbers), gas=gas)
                    self.assertEqual(trial.ending, (3, 0, gas))

    def test_none_of_these(self):
        for instruction in (22, 23, 100, 999999):
            self.assertEqual(Trial([instruction]).ending, (2, 0, 11))
            self.assertEqual(Trial(pushes([1, 1, 1]) + [instruction]).ending, (2, 0, 14))
            self.assertEqual(Trial([instruction], gas=10).ending, (3, 0, 10))


class NumbersTest(unittest.TestCase):
    def assert_leaves(self, code, expected, **about):
        trial = Trial(showing(code, expected), **about)
        self.assertEqual((trial.done, trial.paid), (True, 1))

    def test_the_way_the_tests_look(self):
        self.assertEqual(Trial(paying([1, 42])).paid, 42)
        self.assertEqual(Trial(showing([1, 42], 42)).paid, 1)
        self.assertEqual(Trial(showing([1, 42], 43)).paid, 0)

    def test_0_done(self):
        trial = Trial(pushes([5, 7]) + [0, 14])
        self.assertEqual((trial.done, trial.used, trial.paid), (True, 13, 0))

    def test_1_puts_the_next_number(self):
        self.assert_leaves([1, 999999], 999999)
        self.assert_leaves([1, 0], 0)
        self.assertTrue(Trial([1, 16]).done)

    def test_1_without_a_next_number(self):
        trial = Trial([1, 3, 1])
        self.assertEqual((trial.done, trial.used), (False, 12))

    def test_2_adds(self):
        self.assert_leaves(pushes([3, 4]) + [2], 7)
        self.assert_leaves(pushes([999998, 1]) + [2], 999999)
        self.assert_leaves(pushes([999999, 1]) + [2], 0)
        self.assert_leaves(pushes([999999, 999999]) + [2], 999998)

    def test_3_subtracts(self):
        self.assert_leaves(pushes([9, 4]) + [3], 5)
        self.assert_leaves(pushes([4, 4]) + [3], 0)
        trial = Trial(pushes([4, 5]) + [3])
        self.assertEqual((trial.done, trial.used), (False, 13))

    def test_4_multiplies(self):
        self.assert_leaves(pushes([6, 7]) + [4], 42)
        self.assert_leaves(pushes([0, 7]) + [4], 0)
        self.assert_leaves(pushes([1000, 1000]) + [4], 0)
        self.assert_leaves(pushes([999, 1001]) + [4], 999999)
        self.assert_leaves(pushes([999999, 999999]) + [4], 1)

    def test_5_is_less(self):
        self.assert_leaves(pushes([3, 4]) + [5], 1)
        self.assert_leaves(pushes([4, 3]) + [5], 0)
        self.assert_leaves(pushes([4, 4]) + [5], 0)

    def test_6_is_the_same(self):
        self.assertEqual(Trial(paying(pushes([4, 4]) + [6])).paid, 1)
        self.assertEqual(Trial(paying(pushes([3, 4]) + [6])).paid, 0)
        self.assertEqual(Trial(paying(pushes([4, 3]) + [6])).paid, 0)

    def test_7_and_8_slots(self):
        self.assert_leaves(pushes([3]) + [7], 0)
        self.assert_leaves(pushes([3, 44]) + [8] + pushes([3]) + [7], 44)
        self.assert_leaves(pushes([3, 44]) + [8] + pushes([44]) + [7], 0)
        self.assert_leaves(pushes([3, 44]) + [8] + pushes([3, 45]) + [8] + pushes([3]) + [7], 45)
        self.assert_leaves(pushes([3, 44]) + [8] + pushes([4, 45]) + [8] + pushes([3]) + [7], 44)
        self.assert_leaves(pushes([999999, 999999]) + [8] + pushes([999999]) + [7], 999999)
        self.assert_leaves(pushes([3, 44]) + [8] + pushes([3, 0]) + [8] + pushes([3]) + [7], 0)

    def test_slots_hold_from_call_to_call(self):
        counting = paying(pushes([1]) + [7]) + pushes([1, 1]) + [7] + pushes([1]) + [2, 8]
        trial = Trial(counting)
        self.assertEqual((trial.done, trial.paid), (True, 0))
        self.assertEqual(trial.again(), 1)

    def test_9_the_caller(self):
        self.assert_leaves([9], 2)

    def test_10_the_value(self):
        self.assert_leaves([10], 17, value=17)

    def test_11_arguments(self):
        for at, expected in ((0, 70), (1, 71), (2, 72), (3, 0), (999999, 0)):
            self.assert_leaves(pushes([at]) + [11], expected, arguments=[70, 71, 72])
        self.assert_leaves(pushes([0]) + [11], 0)
        self.assert_leaves(pushes([0]) + [11], 999999, arguments=[999999])
        self.assert_leaves(pushes([39]) + [11], 8, arguments=[1] * 39 + [8])

    def test_18_the_money(self):
        self.assert_leaves([18], 300, money=260, value=40)
        self.assert_leaves(pushes([4, 60]) + [14, 18], 240, money=260, value=40)

    def test_19_twice(self):
        self.assert_leaves(pushes([21]) + [19, 2], 42)
        trial = Trial(pushes([21]) + [19, 21, 21, 21])
        self.assertEqual((trial.done, trial.used), (False, 15))

    def test_20_the_other_way_round(self):
        self.assert_leaves(pushes([4, 9]) + [20, 3], 5)
        self.assert_leaves(pushes([100, 4, 9]) + [20, 21, 3], 91)

    def test_21_takes_one_off(self):
        self.assert_leaves(pushes([8, 9]) + [21], 8)


class WhereItGoesOnTest(unittest.TestCase):
    def test_no_code(self):
        trial = Trial([], gas=10)
        self.assertEqual((trial.done, trial.used), (True, 10))

    def test_12_jumps(self):
        trial = Trial([1, 4, 12, 16] + paying([1, 8]))
        self.assertEqual((trial.done, trial.paid, trial.used), (True, 8, 19))

    def test_12_back(self):
        trial = Trial([1, 6, 12, 1, 12, 12] + [1, 3, 12], gas=40)
        self.assertEqual((trial.done, trial.used), (True, 16))

    def test_12_behind_the_code(self):
        for to in (3, 4, 999999):
            trial = Trial([1, to, 12], gas=12)
            self.assertEqual((trial.done, trial.used), (True, 12))

    def test_12_into_a_number_behind_1(self):
        trial = Trial([1, 1, 12])
        self.assertEqual((trial.done, trial.used), (True, 13))
        trial = Trial([1, 4, 12, 1, 16])
        self.assertEqual((trial.done, trial.used), (False, 13))

    def test_13_jumps_if_it_is_not_0(self):
        for condition, paid in ((0, 3), (1, 8), (2, 8), (999999, 8)):
            trial = Trial(pushes([condition, 11]) + [13] + paying([1, 3]) + [0] + paying([1, 8]))
            self.assertEqual((trial.done, trial.paid), (True, paid))

    def test_a_loop_without_end(self):
        for gas in (10, 11, 12, 13, 199, 200):
            trial = Trial([1, 0, 12], gas=gas)
            self.assertEqual((trial.done, trial.used), (False, gas))


class StackTest(unittest.TestCase):
    def assert_ends(self, code, done, used):
        trial = Trial(code)
        self.assertEqual((trial.done, trial.used), (done, used))

    def test_twelve(self):
        self.assert_ends(pushes([1] * 12), True, 22)
        self.assert_ends([9] * 12, True, 22)

    def test_more_than_twelve(self):
        self.assert_ends(pushes([1] * 13), False, 23)
        self.assert_ends([9] * 14, False, 23)
        for instruction in (9, 10, 18, 19):
            self.assert_ends([9] * 11 + [instruction], True, 22)
            self.assert_ends([9] * 12 + [instruction], False, 23)

    def test_those_that_leave_as_many(self):
        for instruction in (7, 11, 20):
            self.assert_ends([9] * 12 + [instruction], True, 23)

    def test_those_that_leave_fewer(self):
        for instruction in (2, 3, 4, 5, 6, 21):
            self.assert_ends([9] * 12 + [instruction, 9], True, 24)

    def test_a_call_with_a_full_stack(self):
        self.assert_ends([9] * 9 + pushes([9, 0, 0]) + [15], True, 32)
        self.assert_ends([9] * 9 + pushes([9, 0, 0]) + [15, 9], True, 33)
        self.assert_ends([9] * 9 + pushes([9, 0, 0]) + [15, 9, 9], False, 34)

    def test_each_call_has_its_own(self):
        call = pushes([8, 0, 0]) + [15]
        trial = Trial(paying(pushes([5] * 8) + call + [20, 21]), others=[([9] * 12 + [17], 0)])
        self.assertEqual((trial.done, trial.paid), (True, 7))
        trial = Trial(paying(call + [21]), others=[([21], 0)])
        self.assertEqual((trial.done, trial.paid), (True, 0))


class PayTest(unittest.TestCase):
    def test_to_a_person(self):
        trial = Trial(pushes([5, 30]) + [14] + pushes([4, 7]) + [14])
        self.assertEqual((trial.done, trial.paid, trial.paid_4, trial.used), (True, 30, 7, 24))

    def test_all_it_has_and_more(self):
        self.assertEqual(Trial(pushes([5, 101]) + [14], money=100, value=1).paid, 101)
        trial = Trial(pushes([5, 102]) + [14], money=100, value=1)
        self.assertEqual((trial.done, trial.paid, trial.used), (False, 0, 17))

    def test_to_nobody(self):
        for to in (0, 8, 9, 999999):
            for amount in (0, 1):
                trial = Trial(pushes([to, amount]) + [14])
                self.assertEqual((trial.done, trial.used), (False, 17))

    def test_to_itself(self):
        trial = Trial(pushes([7, 100]) + [14] + paying([18]), money=99, value=1)
        self.assertEqual((trial.done, trial.paid), (True, 100))
        self.assertFalse(Trial(pushes([7, 101]) + [14], money=99, value=1).done)

    def test_a_contract_that_is_paid_is_not_called(self):
        trial = Trial(pushes([8, 60]) + [14], others=[(paying([18]), 3)])
        self.assertEqual((trial.done, trial.paid), (True, 0))
        below = trial.behind
        later = trial.scene.block(below, order(2, 1, 0, 8, 0, 100, 0))
        self.assertEqual(trial.scene.money(later, 5) - 1000, 63)


class TakenBackTest(unittest.TestCase):
    def spoiling(self, ending):
        """Without an argument it changes slot and money, then ends as told; with one it pays out what they hold."""
        spoil = pushes([1, 9]) + [8] + pushes([5, 20]) + [14] + ending
        look = paying(pushes([1]) + [7]) + [1, 4, 18, 14]
        return [1, 0, 11, 1, 6 + len(spoil), 13] + spoil + look

    def look_after(self, ending, gas=200):
        trial = Trial(self.spoiling(ending), money=100, value=50, gas=gas)
        later = trial.scene.block(trial.behind, order(2, 1, 0, 7, 0, 200, 0, [1]))
        return trial, trial.scene.money(later, 5) - 1000, trial.scene.money(later, 4) - 1000

    def test_done_for_comparison(self):
        trial, paid, paid_4 = self.look_after([0])
        self.assertEqual((trial.done, trial.used), (True, 29))
        self.assertEqual((trial.paid, paid, paid_4), (20, 29, 121))

    def test_each_way(self):
        ways = (([16], 29), ([22], 29), ([21], 29), ([1, 2, 1, 3, 3], 31), ([1, 5, 1, 500, 14], 35))
        for ending, used in ways:
            with self.subTest(ending=ending):
                trial, paid, paid_4 = self.look_after(ending)
                self.assertEqual((trial.done, trial.used, trial.lost), (False, used, 0))
                self.assertEqual((trial.paid, paid, paid_4), (0, 0, 100))

    def test_for_lack_of_gas(self):
        for gas in (11, 15, 20, 27, 28):
            trial, paid, paid_4 = self.look_after([0], gas)
            self.assertEqual((trial.done, trial.used, trial.lost), (False, gas, 0))
            self.assertEqual((trial.paid, paid, paid_4), (0, 0, 100))


if __name__ == "__main__":
    unittest.main()
