"""contract: the code, and the slots that were put, in the order in which they were put last."""

import unittest

from tests.helper import ANY, Scene, ask_all, contract, force, order

# Puts argument 1 into slot argument 0, then goes on where argument 2 says.
PUTTING = [1, 0, 11, 1, 1, 11, 8, 1, 2, 11, 12, 0, 16, 22, 1, 14, 12]
DONE = 11
GIVES_UP = 12
FAILS = 13
ENDLESS = 14


def put(slot, number):
    return [1, slot, 1, number, 8]


def call(account, argument=0):
    return [1, account, 1, argument, 1, 0, 15, 21, 21]


class ContractTest(unittest.TestCase):
    def setUp(self):
        self.scene = Scene()

    def made(self, *codes):
        """A block behind which there are contracts with these codes, from 7 on."""
        return self.scene.block(0, *[order(1, at, 1, 0, 10, 10, 0, code) for at, code in enumerate(codes)])

    def called(self, below, *arguments, account=7):
        """A block in which person 2 calls the contract once with each of these."""
        turn = self.scene.turn(below, 2)
        calls = [order(2, turn + at, 0, account, 0, 100, 0, each) for at, each in enumerate(arguments)]
        return self.scene.block(below, *calls)

    def assert_contract(self, number, account, expected):
        self.assertEqual(self.scene.peek(contract(number, account)), expected)


class CodeTest(ContractTest):
    def test_as_it_was_ordered(self):
        below = self.made([16, 22, 999999], [], [5] * 40)
        self.assert_contract(below, 7, [3, 16, 22, 999999, 0])
        self.assert_contract(below, 8, [0, 0])
        self.assert_contract(below, 9, [40] + [5] * 40 + [0])

    def test_eight(self):
        below = self.made(*[[at] for at in range(8)])
        for at in range(8):
            self.assert_contract(below, 7 + at, [1, at, 0])
        self.assert_contract(below, 15, [-3])
        ninth = self.scene.block(below, order(1, 8, 1, 0, 0, 10, 0, [8]))
        self.assert_contract(ninth, 15, [-3])

    def test_each_fork_has_its_own(self):
        left = self.made([1, 2])
        right = self.scene.block(0, order(2, 0, 1, 0, 0, 10, 0, [3]), order(2, 1, 1, 0, 0, 10, 0, [4]))
        self.assert_contract(left, 7, [2, 1, 2, 0])
        self.assert_contract(left, 8, [-3])
        self.assert_contract(right, 7, [1, 3, 0])
        self.assert_contract(right, 8, [1, 4, 0])
        self.assert_contract(0, 7, [-3])


class RefusedTest(ContractTest):
    def test_no_such_block(self):
        for number in (1, ANY):
            for account in (0, 1, 7, ANY):
                self.assertEqual(ask_all([contract(number, account)]), [[-3]])

    def test_no_such_contract(self):
        for account in (0, 1, 6, 7, 8, ANY):
            self.assertEqual(ask_all([contract(0, account)]), [[-3]])
        below = self.made([], [])
        for account in (0, 1, 2, 3, 4, 5, 6, 9, 10, ANY):
            self.assert_contract(below, account, [-3])

    def test_behind_a_block_that_is_not_right(self):
        self.scene.ask(order(1, 0, 1, 0, 0, 10, 0, [3]))
        self.scene.ask(force(0, 6, [0, 9]))
        self.assert_contract(1, 7, [-3])
        self.scene.ask(force(1, 6, [0]))
        self.assert_contract(2, 7, [1, 3, 0])
        self.scene.ask(force(2, 6, [0]))
        self.assert_contract(3, 7, [1, 3, 0])


class SlotsTest(ContractTest):
    def assert_slots(self, number, expected, account=7):
        self.assertEqual(self.scene.slots(number, account), expected)

    def test_the_whole_answer(self):
        block = self.called(self.made(PUTTING), [5, 50, DONE], [3, 30, DONE])
        self.assert_contract(block, 7, [17] + PUTTING + [2, 5, 50, 3, 30])

    def test_none_at_first(self):
        self.assert_slots(self.made(PUTTING), [])

    def test_put_once(self):
        below = self.made(PUTTING)
        self.assert_slots(self.called(below, [5, 50, DONE]), [(5, 50)])
        self.assert_slots(self.called(below, [0, 1, DONE]), [(0, 1)])
        self.assert_slots(self.called(below, [999999, 999999, DONE]), [(999999, 999999)])

    def test_several(self):
        below = self.made(PUTTING)
        self.assert_slots(self.called(below, [5, 50, DONE], [9, 90, DONE], [3, 30, DONE]), [(5, 50), (9, 90), (3, 30)])

    def test_put_again(self):
        block = self.called(self.made(PUTTING), [5, 50, DONE], [9, 90, DONE], [5, 51, DONE])
        self.assert_slots(block, [(9, 90), (5, 51)])
        block = self.called(block, [5, 52, DONE], [3, 30, DONE], [9, 90, DONE])
        self.assert_slots(block, [(5, 52), (3, 30), (9, 90)])

    def test_put_again_with_the_same_number(self):
        block = self.called(self.made(PUTTING), [5, 50, DONE], [9, 90, DONE], [5, 50, DONE])
        self.assert_slots(block, [(9, 90), (5, 50)])

    def test_put_with_0(self):
        block = self.called(self.made(PUTTING), [5, 0, DONE])
        self.assert_slots(block, [(5, 0)])
        block = self.called(block, [9, 90, DONE], [5, 0, DONE])
        self.assert_slots(block, [(9, 90), (5, 0)])
        self.assert_slots(self.called(block, [9, 0, DONE]), [(5, 0), (9, 0)])

    def test_within_one_call(self):
        block = self.called(self.made(put(1, 10) + put(2, 20) + put(1, 11) + put(3, 0)), [])
        self.assert_slots(block, [(2, 20), (1, 11), (3, 0)])

    def test_read_only(self):
        block = self.called(self.made([1, 5, 7] + put(6, 1) + [1, 6, 7]), [])
        self.assert_slots(block, [(6, 1)])

    def test_put_in_a_call_that_is_taken_back(self):
        block = self.called(self.made(PUTTING), [5, 50, DONE], [9, 90, DONE])
        for at, ending in enumerate((GIVES_UP, FAILS, ENDLESS)):
            for slot, number in ((5, 51), (5, 50), (9, 0), (3, 30)):
                behind = self.called(block, [slot, number, ending])
                self.assertEqual(self.scene.endings(behind)[0][0], at + 1)
                self.assert_slots(behind, [(5, 50), (9, 90)])
                self.assert_slots(self.called(behind, [3, 30, DONE]), [(5, 50), (9, 90), (3, 30)])

    def test_put_in_a_call_within(self):
        below = self.made(call(8) + put(1, 10), put(4, 40) + put(5, 50) + put(4, 41))
        block = self.called(below, [])
        self.assert_slots(block, [(1, 10)])
        self.assert_slots(block, [(5, 50), (4, 41)], account=8)

    def test_put_in_a_call_within_that_is_taken_back(self):
        spoiling = put(5, 51) + put(6, 60) + [16]
        below = self.made(put(1, 10) + call(9) + put(2, 20), put(4, 40), call(8) + spoiling)
        block = self.called(below, [])
        self.assert_slots(block, [(1, 10), (2, 20)])
        self.assert_slots(block, [], account=8)
        self.assert_slots(block, [], account=9)

    def test_put_by_the_first_again_within(self):
        # With an argument 7 puts slot 1 and no more; 8 has it do so, and is done or gives up.
        outer = put(1, 10) + put(2, 20) + call(8) + [0]
        code = [1, 0, 11, 1, 6 + len(outer), 13] + outer + put(1, 11)
        for ending, expected in (([0], [(2, 20), (1, 11)]), ([16], [(1, 10), (2, 20)])):
            self.scene = Scene()
            self.assert_slots(self.called(self.made(code, call(7, 1) + ending), []), expected)

    def test_from_block_to_block(self):
        block = self.called(self.made(PUTTING), [5, 50, DONE], [9, 90, DONE])
        higher = self.scene.tower(block, 3)
        self.assert_slots(higher, [(5, 50), (9, 90)])
        self.assert_slots(self.called(higher, [5, 5, DONE]), [(9, 90), (5, 5)])
        self.assert_slots(higher, [(5, 50), (9, 90)])

    def test_each_fork_has_its_own(self):
        below = self.called(self.made(PUTTING), [5, 50, DONE])
        left = self.called(below, [5, 1, DONE], [6, 2, DONE])
        right = self.called(below, [6, 3, DONE], [5, 4, DONE])
        self.assert_slots(below, [(5, 50)])
        self.assert_slots(left, [(5, 1), (6, 2)])
        self.assert_slots(right, [(6, 3), (5, 4)])

    def test_each_contract_has_its_own(self):
        below = self.made(PUTTING, PUTTING)
        block = self.called(self.called(below, [5, 50, DONE]), [6, 60, DONE], account=8)
        self.assert_slots(block, [(5, 50)])
        self.assert_slots(block, [(6, 60)], account=8)

    def test_behind_a_block_that_is_not_right(self):
        below = self.called(self.made(PUTTING), [5, 50, DONE])
        number = self.scene.ask(order(2, 1, 0, 7, 0, 100, 0, [6, 60, DONE]))[0]
        spoilt, right = self.scene.ask(force(below, 6, [number, ANY]))
        self.assertEqual(right, 0)
        self.assert_slots(spoilt, [(5, 50)])
        higher, right = self.scene.ask(force(spoilt, 6, [number]))
        self.assertEqual(right, 1)
        self.assert_slots(higher, [(5, 50), (6, 60)])


if __name__ == "__main__":
    unittest.main()
