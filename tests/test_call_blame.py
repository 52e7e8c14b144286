"""blame: who has two votes against one another, and the first such two."""

import unittest

from tests.helper import Scene, ask_all, blame, hear, order, vote


class BlameTest(unittest.TestCase):
    def setUp(self):
        """1 to 9 stand one on another, 10 to 15 beside them on 0; the posts are 3, 6, 9, and 12, 15."""
        self.scene = Scene()
        self.scene.tower(0, 9)
        self.scene.tower(0, 6)

    def assert_blame(self, votes, expected):
        calls = [vote(*each) for each in votes]
        self.assertEqual(self.scene.peek(*calls, blame()), expected)

    def test_nobody_at_first(self):
        self.assertEqual(ask_all([blame()]), [[0]])
        self.assertEqual(self.scene.peek(blame()), [0])

    def test_nobody_who_votes_as_they_should(self):
        self.assert_blame([(1, 0, 3)], [0])
        self.assert_blame([(1, 0, 3), (1, 3, 6), (1, 6, 9)], [0])
        self.assert_blame([(1, 6, 9), (1, 3, 6), (1, 0, 3)], [0])
        self.assert_blame([(1, 0, 9), (1, 0, 6), (1, 0, 3)], [0])
        self.assert_blame([(1, 0, 9), (1, 3, 9), (1, 6, 9)], [0])
        self.assert_blame([(1, 0, 6), (1, 3, 9)], [0])
        self.assert_blame([(1, 0, 3), (1, 0, 15)], [0])

    def test_votes_of_others_do_not_count(self):
        self.assert_blame([(1, 0, 3), (2, 0, 12)], [0])
        self.assert_blame([(1, 0, 9), (2, 3, 6), (3, 0, 12), (4, 12, 15)], [0])

    def test_targets_as_high(self):
        self.assert_blame([(1, 0, 3), (1, 0, 12)], [1, 1, 0, 1])
        self.assert_blame([(2, 0, 12), (2, 0, 3)], [1, 2, 0, 1])
        self.assert_blame([(3, 3, 6), (3, 12, 15)], [1, 3, 0, 1])
        self.assert_blame([(4, 0, 6), (4, 12, 15)], [1, 4, 0, 1])

    def test_one_around_the_other(self):
        self.assert_blame([(1, 0, 9), (1, 3, 6)], [1, 1, 0, 1])
        self.assert_blame([(1, 3, 6), (1, 0, 9)], [1, 1, 0, 1])
        self.assert_blame([(4, 12, 15), (4, 0, 9)], [1, 4, 0, 1])

    def test_the_numbers_are_those_of_all_votes(self):
        votes = [(1, 0, 3), (2, 0, 3), (3, 0, 12), (2, 3, 6), (1, 3, 6), (2, 0, 12)]
        self.assert_blame(votes, [1, 2, 1, 5])

    def test_several_rising(self):
        votes = [(validator, 0, target) for target in (12, 3) for validator in (4, 1, 3, 2)]
        self.assert_blame(votes, [4, 1, 1, 5, 2, 3, 7, 3, 2, 6, 4, 0, 4])
        self.assert_blame(votes[:6], [2, 1, 1, 5, 4, 0, 4])

    def test_of_several_two_the_least_later_one(self):
        # The third is against the second, the fourth against the first: the third comes before the fourth.
        self.assert_blame([(1, 0, 3), (1, 3, 6), (1, 0, 15), (1, 0, 12)], [1, 1, 1, 2])

    def test_then_the_least_earlier_one(self):
        self.assert_blame([(1, 0, 6), (1, 3, 6), (1, 0, 15)], [1, 1, 0, 2])
        self.assert_blame([(1, 0, 3), (1, 0, 6), (1, 3, 6), (1, 12, 15)], [1, 1, 1, 3])

    def test_later_votes_change_nothing(self):
        votes = [(1, 0, 3), (1, 0, 12)]
        more = [(1, 0, 6), (1, 12, 15), (1, 0, 9), (1, 3, 6), (2, 0, 3)]
        for many in range(6):
            self.assert_blame(votes + more[:many], [1, 1, 0, 1])

    def test_refused_votes_do_not_count(self):
        self.assert_blame([(1, 0, 3), (1, 0, 3), (1, 0, 11), (5, 0, 12), (1, 0, 0)], [0])
        self.assert_blame([(1, 0, 3), (1, 0, 3), (1, 0, 11), (1, 0, 12)], [1, 1, 0, 1])

    def test_whoever_heard_them(self):
        calls = [vote(1, 0, 3), vote(1, 0, 12)]
        for heard in ((), (0,), (0, 1)):
            told = self.scene.peek(*calls, *[hear(1, number) for number in heard], blame())
            self.assertEqual(told, [1, 1, 0, 1])

    def test_also_when_nothing_is_held_any_more(self):
        for each in ((1, 0, 3), (1, 0, 12)):
            self.scene.ask(vote(*each))
        block = self.scene.block(0, order(5, 0, 2, 0, 0, 10, 0, [1, 0, 3, 0, 12]))
        self.assertEqual(self.scene.world(block).held, [0, 300, 300, 300])
        self.assertEqual(self.scene.peek(blame()), [1, 1, 0, 1])

    def test_just_those_whose_vote_was_told_to_be_against_one(self):
        votes = [(1, 0, 3), (2, 0, 3), (3, 0, 3), (2, 3, 6), (3, 0, 9), (1, 0, 12), (2, 6, 9), (3, 3, 6)]
        told = [self.scene.ask(vote(*each))[1] for each in votes]
        self.assertEqual(told, [0, 0, 0, 0, 0, 1, 0, 1])
        self.assertEqual(self.scene.peek(blame()), [2, 1, 0, 5, 3, 4, 7])


if __name__ == "__main__":
    unittest.main()
