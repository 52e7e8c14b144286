"""posts: those that stand by a node's votes, in the order in which they come to it, and those that last."""

import itertools
import unittest

from tests.helper import ANY, Scene, ask_all, blame, force, head, hear, know, posts, vote


class PostsTest(unittest.TestCase):
    def setUp(self):
        self.scene = Scene()
        self.votes = 0

    def voted(self, source, target, validators=(1, 2, 3), node=1):
        """These validators vote, and the node hears it; no node, if it's None."""
        for validator in validators:
            self.assertEqual(self.scene.ask(vote(validator, source, target))[0], self.votes)
            if node is not None:
                self.scene.ask(hear(node, self.votes))
            self.votes += 1

    def assert_posts(self, standing, lasting, node=1):
        expected = [len(standing)] + standing + [len(lasting)] + lasting
        self.assertEqual(self.scene.peek(posts(node)), expected)


class StandingTest(PostsTest):
    def test_block_0_alone(self):
        for node in (1, 2, 3):
            self.assertEqual(ask_all([posts(node)]), [[1, 0, 1, 0]])
        self.scene.tower(0, 6)
        self.assert_posts([0], [0])

    def test_no_node(self):
        for node in (0, 4, ANY):
            self.assertEqual(ask_all([posts(node)]), [[-1]])
            self.assertEqual(ask_all([force(0, 1), posts(node)])[-1], [-1])

    def test_three_validators_at_least(self):
        self.scene.tower(0, 3)
        self.voted(0, 3, (1,))
        self.assert_posts([0], [0])
        self.voted(0, 3, (4,))
        self.assert_posts([0], [0])
        self.voted(0, 3, (2,))
        self.assert_posts([0, 3], [0])
        self.voted(0, 3, (3,))
        self.assert_posts([0, 3], [0])

    def test_any_three(self):
        self.scene.tower(0, 3)
        for three in itertools.combinations((1, 2, 3, 4), 3):
            calls = [vote(validator, 0, 3) for validator in three] + [hear(2, number) for number in range(3)]
            self.assertEqual(self.scene.peek(*calls, posts(2)), [2, 0, 3, 1, 0])

    def test_by_the_votes_that_the_node_heard(self):
        self.scene.tower(0, 3)
        self.voted(0, 3, (1, 2, 3, 4), node=None)
        self.assert_posts([0], [0])
        for at, number in enumerate((3, 0, 2)):
            self.scene.ask(hear(2, number))
            self.assert_posts([0] if at < 2 else [0, 3], [0], node=2)
        self.assert_posts([0], [0], node=1)
        self.assert_posts([0], [0], node=3)

    def test_whether_or_not_it_knows_the_blocks(self):
        self.scene.tower(0, 3)
        self.voted(0, 3)
        self.assert_posts([0, 3], [0])
        self.assertEqual(self.scene.peek(head(1))[2], 0)
        for number in (1, 2, 3):
            self.scene.ask(know(1, number))
        self.assert_posts([0, 3], [0])
        self.assertEqual(self.scene.peek(head(1))[2], 3)

    def test_from_one_that_stands(self):
        self.scene.tower(0, 9)
        self.voted(6, 9)
        self.voted(3, 6)
        self.assert_posts([0], [0])
        self.voted(0, 3)
        self.assert_posts([0, 3, 6, 9], [0, 3, 6])

    def test_all_three_from_one(self):
        self.scene.tower(0, 6)
        self.voted(0, 3)
        self.voted(0, 6, (1, 2))
        self.voted(3, 6, (3, 4))
        self.assert_posts([0, 3], [0])
        self.voted(0, 6, (4,))
        self.assert_posts([0, 3, 6], [0])

    def test_all_three_to_one(self):
        self.scene.tower(0, 3)
        self.scene.tower(0, 3)
        self.voted(0, 3, (1, 2))
        self.voted(0, 6, (3, 4))
        self.assert_posts([0], [0])

    def test_within_a_step_by_their_numbers(self):
        self.scene.tower(0, 3)
        self.scene.tower(0, 6)
        for target in (9, 6, 3):
            self.voted(0, target)
        self.assert_posts([0, 3, 6, 9], [0])

    def test_step_by_step(self):
        self.scene.tower(0, 9)
        self.voted(3, 6)
        self.voted(0, 9)
        self.voted(0, 3)
        self.assert_posts([0, 3, 9, 6], [0, 3])

    def test_within_a_later_step_by_their_numbers_too(self):
        # 3 is on 0, 6 on 3; 9 is beside 3, 12 on 9. The one on 9 was voted for first.
        self.scene.tower(0, 6)
        self.scene.tower(0, 6)
        for source, target in ((9, 12), (0, 9), (3, 6), (0, 3)):
            self.voted(source, target)
        self.assert_posts([0, 3, 9, 6, 12], [0, 3, 9])

    def test_within_a_later_step_whichever_they_come_from(self):
        # 12 is on 3, beside 6; 9 is on 6. So 9 comes from 6, 12 from 3, and 15 on 12 from 12.
        self.scene.tower(0, 9)
        self.scene.tower(3, 6)
        for source, target in ((12, 15), (6, 9), (3, 12), (0, 3), (0, 6)):
            self.voted(source, target)
        self.assert_posts([0, 3, 6, 9, 12, 15], [0, 3, 6, 12])

    def test_each_is_told_once(self):
        self.scene.tower(0, 9)
        for source, target in ((0, 9), (3, 9), (6, 9), (0, 3), (3, 6), (0, 6)):
            self.voted(source, target)
        self.assert_posts([0, 3, 6, 9], [0, 3, 6])

    def test_whatever_the_order_in_which_votes_are_heard(self):
        self.scene.tower(0, 9)
        links = ((0, 3), (0, 9), (3, 6))
        for source, target in links:
            self.voted(source, target, node=None)
        for order_of_links in itertools.permutations(range(3)):
            calls = [hear(3, 3 * link + at) for link in order_of_links for at in (2, 0, 1)]
            self.assertEqual(self.scene.peek(*calls, posts(3)), [4, 0, 3, 9, 6, 2, 0, 3])

    def test_posts_that_are_not_right_may_stand(self):
        self.scene.tower(0, 2)
        self.assertEqual(self.scene.ask(force(2, 1, [5])), [3, 0])
        self.voted(0, 3)
        self.assert_posts([0, 3], [0])


class LastingTest(PostsTest):
    def test_three_voted_from_it_to_one_three_higher(self):
        self.scene.tower(0, 6)
        self.voted(0, 3)
        self.assert_posts([0, 3], [0])
        self.voted(3, 6, (1, 2))
        self.assert_posts([0, 3], [0])
        self.voted(3, 6, (4,))
        self.assert_posts([0, 3, 6], [0, 3])
        self.voted(3, 6, (3,))
        self.assert_posts([0, 3, 6], [0, 3])

    def test_not_to_one_higher_than_that(self):
        self.scene.tower(0, 12)
        self.voted(0, 3)
        self.voted(3, 9)
        self.assert_posts([0, 3, 9], [0])
        self.voted(9, 12)
        self.assert_posts([0, 3, 9, 12], [0, 9])
        self.voted(3, 6)
        self.assert_posts([0, 3, 6, 9, 12], [0, 3, 9])

    def test_not_to_several_three_higher(self):
        self.scene.tower(0, 6)
        self.scene.tower(3, 3)
        self.voted(0, 3)
        self.voted(3, 6, (1, 2))
        self.voted(3, 9, (3, 4))
        self.assert_posts([0, 3], [0])
        self.voted(3, 9, (2,))
        self.assert_posts([0, 3, 9], [0, 3])

    def test_not_if_it_does_not_stand(self):
        self.scene.tower(0, 9)
        self.voted(3, 6)
        self.voted(6, 9)
        self.assert_posts([0], [0])
        self.voted(0, 6)
        self.assert_posts([0, 6, 9], [0, 6])

    def test_block_0_lasts_without_votes(self):
        self.scene.tower(0, 6)
        self.voted(0, 6)
        self.assert_posts([0, 6], [0])

    def test_in_the_order_of_the_standing_ones(self):
        self.scene.tower(0, 12)
        for source, target in ((0, 3), (0, 9), (3, 6), (6, 9), (9, 12)):
            self.voted(source, target)
        self.assert_posts([0, 3, 9, 6, 12], [0, 3, 9, 6])

    def test_by_the_votes_that_the_node_heard(self):
        self.scene.tower(0, 6)
        self.voted(0, 3, node=1)
        self.voted(3, 6, node=None)
        for number in range(6):
            self.scene.ask(hear(2, number))
        self.assert_posts([0, 3], [0], node=1)
        self.assert_posts([0, 3, 6], [0, 3], node=2)
        self.assert_posts([0], [0], node=3)

    def test_two_that_do_not_lie_on_one_another(self):
        self.scene.tower(0, 6)
        self.scene.tower(0, 6)
        for source, target in ((0, 3), (3, 6)):
            self.voted(source, target, (1, 2, 3))
        for source, target in ((0, 9), (9, 12)):
            self.voted(source, target, (2, 3, 4))
        self.assert_posts([0, 3, 9, 6, 12], [0, 3, 9])
        self.assertEqual(self.scene.peek(blame()), [2, 2, 1, 6, 3, 2, 7])


if __name__ == "__main__":
    unittest.main()
