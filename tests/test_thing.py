import unittest

from tests.lines import HIGHEST, ask, begins, claim, fits, last, put, thing


class Thing(unittest.TestCase):
    def test_answers_its_number(self):
        self.assertEqual(
            ask(thing(0, 1, 2, 3), thing(4, 5, 6, 7), thing(8, 9, 0, 1), thing(2, 3, 4, 5), thing(6, 7, 8, 9)),
            [[0], [1], [2], [3], [4]])

    def test_alike_things_are_things_of_their_own(self):
        self.assertEqual(
            ask(thing(1, 2, 3, 4), thing(1, 2, 3, 4), claim(1, 2, 3, 4), fits(0)),
            [[0], [1], [0], [2, 0, 0, 1, 0]])

    def test_numbers_are_counted_without_the_claims(self):
        self.assertEqual(
            ask(claim(1, 1, 1, 1), claim(1, 1, 1, 1), thing(1, 1, 1, 1), claim(1, 1, 1, 1), thing(1, 1, 1, 1)),
            [[0], [1], [0], [2], [1]])

    def test_9_is_a_value_in_each_place(self):
        for place in range(4):
            with self.subTest(place=place):
                features = put([0, 0, 0, 0], place, 9)
                self.assertEqual(ask(thing(*features), claim(*features), fits(0)), [[0], [0], [1, 0, 0]])

    def test_above_9_is_refused_in_each_place(self):
        for place in range(4):
            for value in (10, 11, HIGHEST):
                with self.subTest(place=place, value=value):
                    self.assertEqual(ask(thing(*put([0, 0, 0, 0], place, value))), [[-1]])

    def test_a_sixth_is_refused(self):
        told = [thing(1, 1, 1, 1)] * 5
        self.assertEqual(ask(*told, thing(0, 0, 0, 0), thing(9, 9, 9, 9))[5:], [[-5], [-5]])

    def test_a_value_too_high_is_told_ahead_of_too_many(self):
        told = [thing(1, 1, 1, 1)] * 5
        for place in range(4):
            for value in (10, HIGHEST):
                with self.subTest(place=place, value=value):
                    self.assertEqual(last(*told, thing(*put([1, 1, 1, 1], place, value))), [-1])

    def test_five_claims_leave_room_for_things(self):
        told = [claim(1, 1, 1, 1)] * 5
        self.assertEqual(last(*told, thing(1, 1, 1, 1)), [0])

    def test_refused_for_a_value_leaves_all_as_it_was(self):
        self.assertEqual(
            ask(begins(4), claim(1, 1, 1, 1), thing(10, 1, 1, 1), fits(0), thing(1, 1, 1, 1), thing(1, 1, 1, 10),
                fits(0), thing(1, 1, 2, 2), fits(0), claim(2, 2, 2, 2), fits(1)),
            [[0], [0], [-1], [0], [0], [-1], [1, 0, 0], [1], [2, 0, 0, 1, 2], [1], [2, 0, 4, 1, 2]])

    def test_refused_as_too_many_leaves_all_as_it_was(self):
        told = [begins(1)] + [thing(0, 0, 0, value) for value in range(5)] + [claim(0, 0, 0, 4)]
        expected = [5, 0, 1, 1, 1, 2, 1, 3, 1, 4, 0]
        self.assertEqual(
            ask(*told, fits(0), thing(0, 0, 0, 4), fits(0), thing(0, 0, 0, 10), fits(0))[7:],
            [expected, [-5], expected, [-1], expected])
