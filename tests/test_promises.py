"""What holds over the whole program, whatever was called: tried on worlds that dice make."""

import random
import unittest

from tests.helper import (
    World, ask_all, blame, block, chain, contract, endings_told, force, head, hear, know, order, orderof, posts, vote,
    world,
)


def any_code(dice):
    """Code that puts slots, pays and calls, and now and then ends, jumps or goes wrong."""
    code = []
    while len(code) < 30:
        way = dice.randrange(10)
        if way < 3:
            code += [1, dice.randrange(3), 1, dice.randrange(3), 8]
        elif way < 5:
            code += [1, dice.randrange(7, 11), 1, dice.randrange(3), 1, dice.randrange(9), 15, 21, 21]
        elif way < 7:
            code += [1, dice.randrange(1, 11), 1, dice.randrange(9), 14]
        elif way < 9:
            code += [dice.choice((9, 10, 18)), dice.choice((2, 3, 4, 6, 19, 20, 21))]
        else:
            code += [1, dice.randrange(30), dice.choice((12, 16, 17, 22))]
    return code[:40]


def world_of_orders(dice):
    """Contracts in block 1, then blocks with one to three calls, payments or further contracts; some forks."""
    calls = [order(person, 0, 1, 0, 50, 10, 1, any_code(dice)) for person in (1, 2, 3, 4)]
    calls.append(force(0, 5, range(4)))
    orders = 4
    turns = {0: [0] * 7, 1: [0, 1, 1, 1, 1, 0, 0]}
    while len(calls) < 46:
        below = max(turns) if dice.randrange(4) else dice.randrange(len(turns))
        new = []
        here = list(turns[below])
        for _ in range(dice.randrange(1, 4)):
            person = dice.randrange(1, 7)
            calls.append(order(person, here[person], dice.choice((0, 0, 0, 0, 1)), dice.randrange(2, 12),
                               dice.randrange(40), dice.randrange(10, 101), dice.randrange(3), any_code(dice)))
            here[person] += 1
            new.append(orders)
            orders += 1
        if dice.randrange(8) == 0:
            new.append(new[0])
            here = turns[below]
        calls.append(force(below, dice.randrange(1, 7), new))
        turns[len(turns)] = here
    return calls, orders, len(turns)


def world_of_votes(dice, blocks, votes, honest=()):
    """Forks, and so many votes at most from post to post, mostly by three or more; the honest ones never give a vote
    that is against an earlier one. Answers the calls, and the chain of each block."""
    calls = []
    lines = [[0]]
    for top in range(blocks):
        below = top if dice.randrange(6) else dice.randrange(top + 1)
        calls.append(force(below, 1))
        lines.append([top + 1] + lines[below])
    targets = [line[0] for line in lines[1:] if len(line) % 3 == 1]
    for _ in range(votes if targets else 0):
        if len(calls) >= blocks + votes - 3:
            break
        target = dice.choice(targets)
        source = dice.choice(lines[target][3::3])
        for validator in dice.sample((1, 2, 3, 4), dice.choice((3, 3, 3, 4, 2))):
            answer = ask_all(calls + [vote(validator, source, target)])[-1]
            if answer[0] >= 0 and not (validator in honest and answer[1] == 1):
                calls.append(vote(validator, source, target))
    return calls, lines


def hear_all(calls, node):
    return [hear(node, number) for number in range(len([call for call in calls if call[0] == 5]))]


def any_way_up(dice, lines):
    """All blocks but 0, in some order in which each comes behind the one below it."""
    way = [0]
    while len(way) < len(lines):
        way.append(dice.choice([line[0] for line in lines[1:] if line[0] not in way and line[1] in way]))
    return way[1:]


class OrdersTest(unittest.TestCase):
    def setUp(self):
        self.worlds = [world_of_orders(random.Random(seed)) for seed in range(60)]

    def answers_of(self, calls, looks):
        """The answers to the looks behind these calls, some of them at a time."""
        told = []
        for at in range(0, len(looks), 50):
            told += ask_all(calls + looks[at:at + 50])[len(calls):]
        return told

    def test_money_neither_comes_nor_goes(self):
        for calls, _, blocks in self.worlds:
            for answer in self.answers_of(calls, [world(number) for number in range(blocks)]):
                state = World(answer)
                self.assertEqual(state.all_money(), 7200)
                self.assertEqual(len(state.money), 6 + state.contracts)
                self.assertLessEqual(state.contracts, 8)

    def test_each_order_is_done_once_on_a_chain(self):
        for calls, _, blocks in self.worlds:
            told = self.answers_of(calls, [block(number) for number in range(blocks)])
            lines = self.answers_of(calls, [chain(number) for number in range(blocks)])
            for line in lines:
                done = [number for at in line[1:] if told[at][3] == 1 for number in told[at][5:5 + told[at][4]]]
                self.assertEqual(len(done), len(set(done)))

    def test_the_machine_ends_within_its_gas(self):
        ways = set()
        for calls, orders, blocks in self.worlds:
            given = self.answers_of(calls, [orderof(number) for number in range(orders)])
            for answer in self.answers_of(calls, [block(number) for number in range(blocks)]):
                endings = endings_told(answer)
                self.assertEqual(len(endings), answer[4] if answer[3] == 1 else 0)
                for number, (how, result, used) in zip(answer[5:], endings):
                    gas = given[number][5]
                    self.assertTrue(10 <= used <= gas)
                    self.assertTrue(how == 0 or result == 0)
                    self.assertTrue(how not in (3, 4) or used == gas)
                    ways.add((given[number][2], how))
        self.assertEqual(ways, {(0, 0), (0, 1), (0, 2), (0, 3), (0, 4), (1, 0), (1, 4)})

    def test_a_call_that_is_taken_back_has_done_nothing(self):
        seen = 0
        for calls, orders, _ in self.worlds:
            behind = [force(1, 6, [orders + 1]), force(1, 6, [orders])]
            probes = [order(5, 0, 0, 7, 9, 60, 1), order(5, 0, 0, 8, 9, 60, 1)]
            numbers = [len([call for call in calls if call[0] == 3]) + at for at in (1, 2)]
            looks = [look for at in numbers for look in (block(at), world(at), contract(at, 7), contract(at, 8))]
            told = ask_all(calls + probes + behind + [world(1), contract(1, 7), contract(1, 8)] + looks)
            first, slots = told[-11], told[-10:-8]
            for answer in (told[-8:-4], told[-4:]):
                how, _, used = endings_told(answer[0])[0]
                if how in (1, 2, 3):
                    seen += 1
                    expected = list(first)
                    expected[5] -= used
                    expected[6] += used
                    expected[first[0] + 5] += 1
                    self.assertEqual(answer[1], expected)
                    self.assertEqual(answer[2:], slots)
        self.assertGreater(seen, 20)


class VotesTest(unittest.TestCase):
    def lasting_and_blamed(self, calls):
        told, blamed = ask_all(calls + hear_all(calls, 1) + [posts(1), blame()])[-2:]
        return told[2 + told[0]:], blamed

    def test_two_that_last_lie_on_one_another_or_two_are_to_blame(self):
        apart = 0
        for seed in range(100):
            calls, lines = world_of_votes(random.Random(seed), 20, 36)
            lasting, blamed = self.lasting_and_blamed(calls)
            for one in lasting:
                for other in lasting:
                    if one not in lines[other] and other not in lines[one]:
                        apart += 1
                        self.assertGreaterEqual(blamed[0], 2)
        self.assertGreater(apart, 20)

    def test_with_three_who_vote_as_they_should_those_that_last_lie_on_one_another(self):
        for seed in range(100):
            calls, lines = world_of_votes(random.Random(seed), 20, 36, honest=(1, 2, 4))
            lasting, blamed = self.lasting_and_blamed(calls)
            self.assertTrue(all(one in lines[max(lasting)] for one in lasting))
            self.assertIn(blamed[:2], ([0], [1, 3]))

    def test_just_those_who_vote_against_themselves_are_blamed(self):
        for seed in range(100):
            calls, _ = world_of_votes(random.Random(seed), 20, 36, honest=(seed % 4 + 1,))
            told = ask_all(calls + [blame()])
            against = sorted({call[1] for call, answer in zip(calls, told) if call[0] == 5 and answer[1] == 1})
            self.assertEqual(told[-1][1::3], against)
            self.assertNotIn(seed % 4 + 1, against)

    def test_nodes_that_have_heard_the_same_have_one_head(self):
        for seed in range(60):
            dice = random.Random(seed)
            calls, lines = world_of_votes(dice, 14, 18)
            known = [[know(node, number) for number in any_way_up(dice, lines)] for node in (2, 3)]
            heard = [hear_all(calls, node) for node in (2, 3)]
            dice.shuffle(heard[1])
            told = ask_all(calls + known[0] + heard[0] + heard[1] + known[1] + [head(2), head(3), posts(2), posts(3)])
            self.assertEqual(told[-4], told[-3])
            self.assertEqual(told[-2], told[-1])


if __name__ == "__main__":
    unittest.main()
