"""head: root and head, by the blocks and votes that a node knows."""

import itertools
import unittest

from tests.helper import ANY, Scene, ask_all, head, hear, know, make, vote


class HeadTest(unittest.TestCase):
    def setUp(self):
        self.scene = Scene()
        self.votes = 0

    def know_all(self, blocks, node=1):
        for block in blocks:
            self.assertEqual(self.scene.ask(know(node, block)), [1])

    def heard(self, source, target, validators=(1, 2, 3), node=1):
        """These validators vote, and the node hears it."""
        for validator in validators:
            self.scene.ask(vote(validator, source, target))
            self.assertEqual(self.scene.ask(hear(node, self.votes)), [1])
            self.votes += 1

    def assert_head(self, top, height, root, node=1):
        self.assertEqual(self.scene.peek(head(node))[:3], [top, height, root])

    def test_at_first(self):
        for node in (1, 2, 3):
            self.assertEqual(ask_all([head(node)]), [[0, 0, 0, 1, 0, 0]])

    def test_no_node(self):
        for node in (0, 4, ANY):
            self.assertEqual(ask_all([head(node)]), [[-1]])

    def test_the_highest_that_it_knows(self):
        self.scene.tower(0, 2)
        self.scene.tower(0, 3)
        self.know_all([1, 2])
        self.assert_head(2, 2, 0)
        self.know_all([3, 4])
        self.assert_head(2, 2, 0)
        self.know_all([5])
        self.assert_head(5, 3, 0)
        self.assertEqual(self.scene.peek(head(1)), [5, 3, 0, 6, 0, 0])
        self.assertEqual(self.scene.peek(head(2)), [0, 0, 0, 1, 0, 0])

    def test_of_as_high_ones_the_lowest_number(self):
        self.scene.tower(0, 1)
        self.scene.tower(0, 1)
        self.scene.tower(0, 1)
        self.know_all([3])
        self.assert_head(3, 1, 0)
        self.know_all([2])
        self.assert_head(2, 1, 0)
        self.know_all([1])
        self.assert_head(1, 1, 0)

    def test_three_votes_move_the_root(self):
        self.scene.tower(0, 3)
        self.scene.tower(0, 5)
        self.know_all(range(1, 9))
        self.assert_head(8, 5, 0)
        self.heard(0, 3, (1, 2))
        self.assert_head(8, 5, 0)
        self.heard(0, 3, (4,))
        self.assert_head(3, 3, 3)
        self.heard(0, 3, (3,))
        self.assert_head(3, 3, 3)
        self.assertEqual(self.scene.peek(head(1)), [3, 3, 3, 9, 4, 0])

    def test_by_the_votes_that_it_knows(self):
        self.scene.tower(0, 3)
        self.scene.tower(0, 5)
        for node in (1, 2):
            self.know_all(range(1, 9), node)
        self.heard(0, 3, node=1)
        self.assert_head(3, 3, 3, node=1)
        self.assert_head(8, 5, 0, node=2)

    def test_by_the_posts_that_it_knows(self):
        self.scene.tower(0, 6)
        self.heard(0, 3)
        self.heard(3, 6)
        self.assert_head(0, 0, 0)
        self.know_all([1, 2])
        self.assert_head(2, 2, 0)
        self.know_all([3])
        self.assert_head(3, 3, 3)
        self.know_all([4, 5])
        self.assert_head(5, 5, 3)
        self.know_all([6])
        self.assert_head(6, 6, 6)

    def test_the_head_is_on_the_root(self):
        self.scene.tower(0, 3)
        self.scene.tower(0, 6)
        self.scene.tower(3, 2)
        self.know_all(range(1, 12))
        self.assert_head(9, 6, 0)
        self.heard(0, 3)
        self.assert_head(11, 5, 3)

    def test_the_root_may_not_be_on_the_way_any_more(self):
        self.scene.tower(0, 3)
        self.scene.tower(0, 6)
        self.know_all(range(1, 10))
        self.heard(0, 3)
        self.assert_head(3, 3, 3)
        self.heard(0, 9)
        self.assert_head(9, 6, 9)

    def test_from_one_that_stands(self):
        self.scene.tower(0, 9)
        self.know_all(range(1, 10))
        self.heard(3, 6)
        self.assert_head(9, 9, 0)
        self.heard(6, 9)
        self.assert_head(9, 9, 0)
        self.assertEqual(self.scene.peek(head(1))[2], 0)
        self.heard(0, 3)
        self.assert_head(9, 9, 9)

    def test_all_three_from_one(self):
        self.scene.tower(0, 6)
        self.know_all(range(1, 7))
        self.heard(0, 3)
        self.heard(0, 6, (1, 2))
        self.heard(3, 6, (3, 4))
        self.assert_head(6, 6, 3)
        self.heard(3, 6, (1,))
        self.assert_head(6, 6, 6)

    def test_all_three_to_one(self):
        self.scene.tower(0, 3)
        self.scene.tower(0, 3)
        self.know_all(range(1, 7))
        self.heard(0, 3, (1, 2))
        self.heard(0, 6, (3, 4))
        self.assert_head(3, 3, 0)

    def test_posts_may_be_passed_over(self):
        self.scene.tower(0, 9)
        self.know_all(range(1, 10))
        self.heard(0, 9, (2, 3, 4))
        self.assert_head(9, 9, 9)
        self.heard(0, 3)
        self.assert_head(9, 9, 9)

    def test_of_as_high_roots_the_lowest_number(self):
        self.scene.tower(0, 3)
        self.scene.tower(0, 4)
        self.know_all(range(1, 8))
        self.heard(0, 6)
        self.assert_head(7, 4, 6)
        self.heard(0, 3)
        self.assert_head(3, 3, 3)

    def test_of_as_high_roots_by_number_not_by_steps(self):
        self.scene.tower(0, 6)
        self.scene.tower(0, 6)
        self.know_all(range(1, 13))
        self.heard(0, 12)
        self.assert_head(12, 6, 12)
        self.heard(0, 3)
        self.assert_head(12, 6, 12)
        self.heard(3, 6)
        self.assert_head(6, 6, 6)

    def test_an_unknown_post_that_is_higher(self):
        self.scene.tower(0, 3)
        self.scene.tower(0, 6)
        self.know_all([1, 2, 3])
        self.heard(0, 3)
        self.heard(0, 9)
        self.assert_head(3, 3, 3)
        self.assertEqual(self.scene.peek(head(1)), [3, 3, 3, 4, 6, 0])

    def test_a_block_made_is_known(self):
        self.scene.ask(make(2, 1))
        self.scene.ask(make(2, 1))
        self.assertEqual(self.scene.peek(head(2)), [2, 2, 0, 3, 0, 0])

    def test_nodes_that_have_heard_the_same_have_one_head(self):
        self.scene.tower(0, 3)
        self.scene.tower(0, 4)
        for target in (3, 6):
            for validator in (1, 2, 3):
                self.scene.ask(vote(validator, 0, target))
        lines = ([know(1, block) for block in (1, 2, 3)], [know(1, block) for block in (4, 5, 6, 7)],
                 [hear(1, number) for number in (0, 1, 2)], [hear(1, number) for number in (3, 4, 5)])
        for order_of_lines in itertools.permutations(lines):
            calls = [call for line in order_of_lines for call in line]
            self.assertEqual(self.scene.peek(*calls, head(1)), [3, 3, 3, 8, 6, 0])


if __name__ == "__main__":
    unittest.main()
