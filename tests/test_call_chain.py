"""chain: a block and those below it, down to 0."""

import unittest

from tests.helper import ANY, Scene, ask_all, chain, force, head, know, make, order


class ChainTest(unittest.TestCase):
    def test_block_0(self):
        self.assertEqual(ask_all([chain(0)]), [[1, 0]])
        self.assertEqual(ask_all([force(0, 1), chain(0)])[-1], [1, 0])

    def test_each_of_a_tower(self):
        scene = Scene()
        scene.tower(0, 9)
        for top in range(10):
            self.assertEqual(scene.peek(chain(top)), [top + 1] + list(range(top, -1, -1)))

    def test_a_long_chain(self):
        told = ask_all([force(at, 1) for at in range(98)] + [chain(98), chain(97)])
        self.assertEqual(told[-2], [99] + list(range(98, -1, -1)))
        self.assertEqual(told[-1], [98] + list(range(97, -1, -1)))
        told = ask_all([make(2, 1) for _ in range(99)] + [chain(99)])
        self.assertEqual(told[-1], [100] + list(range(99, -1, -1)))

    def test_forks(self):
        scene = Scene()
        for below in (0, 0, 1, 2, 1, 4, 3, 0):
            scene.block(below)
        expected = {1: [1, 0], 2: [2, 0], 3: [3, 1, 0], 4: [4, 2, 0], 5: [5, 1, 0], 6: [6, 4, 2, 0], 7: [7, 3, 1, 0],
                    8: [8, 0]}
        for top, blocks in expected.items():
            self.assertEqual(scene.peek(chain(top)), [len(blocks)] + blocks)

    def test_blocks_that_are_not_right(self):
        scene = Scene()
        scene.ask(order(1, 1, 0, 2, 0, 10, 0))
        self.assertEqual(scene.ask(force(0, 1, [0])), [1, 0])
        self.assertEqual(scene.ask(force(1, 1)), [2, 1])
        self.assertEqual(scene.ask(force(2, 1, [7])), [3, 0])
        self.assertEqual([scene.peek(chain(top)) for top in (1, 2, 3)], [[2, 1, 0], [3, 2, 1, 0], [4, 3, 2, 1, 0]])

    def test_no_such_block(self):
        for number in (1, 2, ANY):
            self.assertEqual(ask_all([chain(number)]), [[-3]])
        for number in (2, 3, ANY):
            self.assertEqual(ask_all([force(0, 1), chain(number)])[-1], [-3])
        self.assertEqual(ask_all([force(1, 1), chain(1)])[-1], [-3])

    def test_it_changes_nothing(self):
        told = ask_all([force(0, 1), know(1, 1), chain(1), make(1, 1), chain(2), head(1), head(2)])
        self.assertEqual(told[2:], [[2, 1, 0], [2, 1, 0], [3, 2, 1, 0], [2, 2, 0, 3, 0, 0], [0, 0, 0, 1, 0, 0]])


if __name__ == "__main__":
    unittest.main()
