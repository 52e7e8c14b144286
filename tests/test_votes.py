"""vote and hear: which votes there are, which are against one another, which a node knows."""

import unittest

from tests.helper import ANY, Scene, ask_all, force, head, hear, order, vote


class VoteTest(unittest.TestCase):
    def setUp(self):
        """1 to 9 stand one on another, 10 to 12 beside them on 0, 13 to 15 on 3; the posts are 3, 6, 9, 12, 15."""
        self.scene = Scene()
        self.scene.tower(0, 9)
        self.scene.tower(0, 3)
        self.scene.tower(3, 3)

    def test_numbered_as_they_come(self):
        votes = [(1, 0, 3), (2, 0, 3), (1, 3, 6), (4, 0, 9), (3, 6, 9)]
        self.assertEqual([self.scene.ask(vote(*each)) for each in votes], [[0, 0], [1, 0], [2, 0], [3, 0], [4, 0]])

    def test_no_validator(self):
        for validator in (0, 5, 6, 7, ANY):
            self.assertEqual(self.scene.peek(vote(validator, 0, 3)), [-1])
        for validator in (1, 2, 3, 4):
            self.assertEqual(self.scene.peek(vote(validator, 0, 3)), [0, 0])

    def test_from_a_post_to_a_higher_one_on_it(self):
        for source, target in ((0, 3), (0, 6), (0, 9), (3, 6), (3, 9), (6, 9), (0, 12), (0, 15), (3, 15)):
            self.assertEqual(self.scene.peek(vote(1, source, target)), [0, 0])

    def test_no_posts(self):
        for source, target in ((0, 1), (0, 2), (0, 4), (0, 5), (1, 3), (2, 3), (1, 4), (4, 6), (5, 6), (0, 11)):
            self.assertEqual(self.scene.peek(vote(1, source, target)), [-1])

    def test_not_higher(self):
        for source, target in ((0, 0), (3, 3), (3, 0), (6, 3), (3, 12), (6, 15)):
            self.assertEqual(self.scene.peek(vote(1, source, target)), [-1])

    def test_not_on_it(self):
        for source, target in ((12, 6), (12, 9), (12, 15), (15, 9)):
            self.assertEqual(self.scene.peek(vote(1, source, target)), [-1])

    def test_no_such_blocks(self):
        for source, target in ((0, 16), (16, 3), (16, 17), (0, ANY), (ANY, 3), (ANY, ANY)):
            self.assertEqual(self.scene.peek(vote(1, source, target)), [-1])

    def test_blocks_that_are_not_right_may_be_posts(self):
        self.assertEqual(self.scene.ask(force(8, 1, [0])), [16, 0])
        self.assertEqual(self.scene.peek(vote(1, 0, 16)), [0, 0])

    def test_given(self):
        self.scene.ask(vote(1, 0, 3))
        self.assertEqual(self.scene.ask(vote(1, 0, 3)), [-6])
        self.assertEqual(self.scene.ask(vote(2, 0, 3)), [1, 0])
        self.assertEqual(self.scene.ask(vote(1, 0, 6)), [2, 0])
        self.assertEqual(self.scene.ask(vote(1, 3, 6)), [3, 0])
        self.assertEqual(self.scene.ask(vote(1, 3, 6)), [-6])
        self.assertEqual(self.scene.ask(vote(1, 0, 3)), [-6])
        self.assertEqual(self.scene.ask(hear(1, 4)), [-3])

    def assert_against(self, first, second, against):
        self.assertEqual(self.scene.peek(vote(1, *first), vote(1, *second)), [1, against])
        self.assertEqual(self.scene.peek(vote(1, *second), vote(1, *first)), [1, against])

    def test_targets_as_high(self):
        self.assert_against((0, 3), (0, 12), 1)
        self.assert_against((3, 6), (3, 15), 1)
        self.assert_against((0, 6), (3, 15), 1)
        self.assert_against((0, 6), (0, 15), 1)

    def test_the_same_target(self):
        self.assert_against((0, 6), (3, 6), 0)
        self.assert_against((0, 9), (6, 9), 0)

    def test_one_around_the_other(self):
        self.assert_against((0, 9), (3, 6), 1)
        self.assert_against((0, 9), (3, 15), 1)

    def test_not_around(self):
        self.assert_against((0, 9), (0, 6), 0)
        self.assert_against((0, 3), (3, 6), 0)
        self.assert_against((0, 3), (6, 9), 0)
        self.assert_against((0, 6), (3, 9), 0)
        self.assert_against((0, 12), (3, 6), 0)
        self.assert_against((0, 12), (3, 15), 0)

    def test_only_of_the_same_validator(self):
        self.scene.ask(vote(1, 0, 3))
        self.assertEqual(self.scene.peek(vote(2, 0, 12)), [1, 0])
        self.assertEqual(self.scene.peek(vote(1, 0, 12)), [1, 1])

    def test_any_earlier_one(self):
        for each in ((1, 0, 3), (1, 3, 6), (1, 6, 9)):
            self.assertEqual(self.scene.ask(vote(*each))[1], 0)
        self.assertEqual(self.scene.peek(vote(1, 0, 12)), [3, 1])
        self.assertEqual(self.scene.peek(vote(1, 0, 15)), [3, 1])
        self.assertEqual(self.scene.peek(vote(1, 3, 9)), [3, 0])
        self.scene.ask(vote(1, 0, 9))
        self.assertEqual(self.scene.peek(vote(1, 3, 9)), [4, 0])

    def test_no_node_knows_it(self):
        self.scene.ask(vote(1, 0, 3))
        for node in (1, 2, 3):
            self.assertEqual(self.scene.peek(head(node))[4], 0)


class HearTest(unittest.TestCase):
    def setUp(self):
        self.scene = Scene()
        self.scene.tower(0, 3)
        self.scene.ask(vote(1, 0, 3))
        self.scene.ask(vote(2, 0, 3))

    def test_heard_and_heard_already(self):
        self.assertEqual([self.scene.ask(hear(1, number)) for number in (1, 1, 0, 1)], [[1], [0], [1], [0]])
        self.assertEqual(self.scene.ask(hear(2, 1)), [1])
        self.assertEqual([self.scene.peek(head(node))[4] for node in (1, 2, 3)], [2, 1, 0])

    def test_refusals(self):
        for node in (0, 4, ANY):
            self.assertEqual(self.scene.peek(hear(node, 0)), [-1])
            self.assertEqual(self.scene.peek(hear(node, 2)), [-1])
        for node in (1, 2, 3):
            for number in (2, 3, ANY):
                self.assertEqual(self.scene.peek(hear(node, number)), [-3])
        self.assertEqual(ask_all([hear(1, 0), order(1, 0, 0, 2, 0, 10, 0), hear(1, 0)]), [[-3], [0], [-3]])


if __name__ == "__main__":
    unittest.main()
