"""Point 1: which orders are taken, and which refusal is told."""

import unittest

from tests.helper import ANY, Scene, ask_all, force, order, vote


def plain(person=1, number=0, kind=0, to=2, value=0, gas=10, price=0, numbers=()):
    return order(person, number, kind, to, value, gas, price, numbers)


def proof(numbers, value=0, gas=10, price=0, person=1):
    return order(person, 0, 2, 0, value, gas, price, numbers)


class OrderTest(unittest.TestCase):
    def assert_refused(self, call, refusal):
        told = ask_all([call, plain()])
        self.assertEqual(told, [[refusal], [0]])

    def assert_taken(self, call):
        self.assertEqual(ask_all([call, plain()]), [[0], [1]])

    def test_numbered_as_they_come(self):
        told = ask_all([plain(), plain(), plain(person=3), plain(kind=1)])
        self.assertEqual(told, [[0], [1], [2], [3]])

    def test_people(self):
        for person in (1, 2, 3, 4, 5, 6):
            self.assert_taken(plain(person=person))
        for person in (0, 7, 8, ANY):
            self.assert_refused(plain(person=person), -1)

    def test_kinds(self):
        self.assert_taken(plain(kind=0))
        self.assert_taken(plain(kind=1))
        for kind in (3, 4, ANY):
            self.assert_refused(plain(kind=kind), -1)

    def test_value(self):
        self.assert_taken(plain(value=1000))
        for value in (1001, ANY):
            self.assert_refused(plain(value=value), -1)

    def test_gas(self):
        for gas in (10, 11, 199, 200):
            self.assert_taken(plain(gas=gas))
        for gas in (0, 9, 201, ANY):
            self.assert_refused(plain(gas=gas), -1)

    def test_price(self):
        self.assert_taken(plain(price=20))
        for price in (21, ANY):
            self.assert_refused(plain(price=price), -1)

    def test_how_many_numbers(self):
        for kind in (0, 1):
            self.assert_taken(plain(kind=kind, numbers=[0] * 40))
            for many in (41, 45):
                self.assert_refused(plain(kind=kind, numbers=[0] * many), -1)

    def test_how_high_numbers(self):
        self.assert_taken(plain(numbers=[999999] * 40))
        for number in (1000000, ANY):
            self.assert_refused(plain(numbers=[number]), -1)
            self.assert_refused(plain(numbers=[0] * 39 + [number]), -1)

    def test_to_and_number_may_be_any(self):
        for to in (0, 7, 15, ANY):
            self.assert_taken(plain(to=to))
        self.assert_taken(plain(number=ANY))
        self.assert_taken(plain(value=1000, gas=200, price=20))


class ProofTest(unittest.TestCase):
    def setUp(self):
        self.scene = Scene()
        self.left = self.scene.tower(0, 3)
        self.right = self.scene.tower(0, 3)
        self.scene.ask(vote(1, 0, self.left))
        self.scene.ask(vote(1, 0, self.right))
        self.scene.ask(vote(2, 0, self.left))

    def test_both_votes_were_given(self):
        self.assertEqual(self.scene.peek(proof([1, 0, self.left, 0, self.right])), [0])
        self.assertEqual(self.scene.peek(proof([1, 0, self.right, 0, self.left])), [0])

    def test_votes_that_are_not_against_one_another_are_taken(self):
        self.assertEqual(self.scene.peek(proof([1, 0, self.left, 0, self.left])), [0])

    def test_not_five_numbers(self):
        five = [1, 0, self.left, 0, self.right]
        for numbers in ([], five[:1], five[:3], five[:4], five + [0], five * 2, [0] * 40):
            self.assertEqual(self.scene.peek(proof(numbers)), [-9])

    def test_not_both_were_given(self):
        self.assertEqual(self.scene.peek(proof([2, 0, self.left, 0, self.right])), [-9])
        self.assertEqual(self.scene.peek(proof([2, 0, self.right, 0, self.left])), [-9])
        self.assertEqual(self.scene.peek(proof([3, 0, self.left, 0, self.right])), [-9])
        self.assertEqual(self.scene.peek(proof([1, self.left, 0, 0, self.right])), [-9])
        self.assertEqual(self.scene.peek(proof([1, 0, 0, 0, 0])), [-9])

    def test_no_validator(self):
        for validator in (0, 5, 999999):
            self.assertEqual(self.scene.peek(proof([validator, 0, self.left, 0, self.right])), [-9])

    def test_votes_given_later_do_not_count(self):
        numbers = [2, 0, self.left, 0, self.right]
        self.assertEqual(self.scene.ask(proof(numbers)), [-9])
        self.scene.ask(vote(2, 0, self.right))
        self.assertEqual(self.scene.ask(proof(numbers)), [0])

    def test_whoever_orders_it(self):
        for person in range(1, 7):
            self.assertEqual(self.scene.peek(proof([1, 0, self.left, 0, self.right], person=person)), [0])

    def test_the_refusal_told_first(self):
        good = [1, 0, self.left, 0, self.right]
        bad = [3, 0, self.left, 0, self.right]
        for numbers in (good, bad, []):
            self.assertEqual(self.scene.peek(proof(numbers, value=1001)), [-1])
            self.assertEqual(self.scene.peek(proof(numbers, gas=9)), [-1])
            self.assertEqual(self.scene.peek(proof(numbers, gas=201)), [-1])
            self.assertEqual(self.scene.peek(proof(numbers, price=21)), [-1])
            self.assertEqual(self.scene.peek(proof(numbers, person=7)), [-1])
        self.assertEqual(self.scene.peek(proof([0] * 41)), [-1])
        self.assertEqual(self.scene.peek(proof([1, 0, self.left, 0, 1000000])), [-1])
        self.assertEqual(self.scene.peek(proof([1000000])), [-1])

    def test_a_refused_one_is_not_there(self):
        self.scene.ask(proof([]))
        self.assertEqual(self.scene.peek([1, 1, 0]), [-3])
        self.assertEqual(self.scene.peek(force(0, 1, [0]))[1], 0)


if __name__ == "__main__":
    unittest.main()
