import unittest

from tests.lines import HIGHEST, ask, begins, claim, fits, last, put, thing


class Claim(unittest.TestCase):
    def test_answers_its_number(self):
        self.assertEqual(
            ask(claim(0, 1, 2, 3), claim(4, 5, 6, 7), claim(8, 9, 10, 0), claim(1, 2, 3, 4), claim(5, 6, 7, 8)),
            [[0], [1], [2], [3], [4]])

    def test_alike_claims_are_claims_of_their_own(self):
        self.assertEqual(
            ask(claim(1, 2, 3, 4), claim(1, 2, 3, 4), thing(1, 2, 3, 4), fits(0), fits(1)),
            [[0], [1], [0], [1, 0, 0], [1, 0, 0]])

    def test_9_is_a_value_in_each_place(self):
        for place in range(4):
            with self.subTest(place=place):
                features = put([0, 0, 0, 0], place, 9)
                self.assertEqual(
                    ask(claim(*features), thing(0, 0, 0, 0), thing(*features), fits(0)),
                    [[0], [0], [1], [1, 1, 0]])

    def test_10_is_left_out_in_each_place(self):
        for place in range(4):
            with self.subTest(place=place):
                self.assertEqual(
                    ask(claim(*put([0, 0, 0, 0], place, 10)), thing(0, 0, 0, 0),
                        thing(*put([0, 0, 0, 0], place, 9)), fits(0)),
                    [[0], [0], [1], [2, 0, 0, 1, 0]])

    def test_all_may_be_left_out(self):
        self.assertEqual(
            ask(claim(10, 10, 10, 10), thing(0, 0, 0, 0), thing(9, 9, 9, 9), fits(0)),
            [[0], [0], [1], [2, 0, 0, 1, 0]])

    def test_above_10_is_refused_in_each_place(self):
        for place in range(4):
            for value in (11, 12, HIGHEST):
                with self.subTest(place=place, value=value):
                    self.assertEqual(ask(claim(*put([0, 0, 0, 0], place, value))), [[-1]])

    def test_a_sixth_is_refused(self):
        told = [claim(1, 1, 1, 1)] * 5
        self.assertEqual(ask(*told, claim(0, 0, 0, 0), claim(10, 10, 10, 10))[5:], [[-5], [-5]])

    def test_a_value_too_high_is_told_ahead_of_too_many(self):
        told = [claim(1, 1, 1, 1)] * 5
        for place in range(4):
            for value in (11, HIGHEST):
                with self.subTest(place=place, value=value):
                    self.assertEqual(last(*told, claim(*put([1, 1, 1, 1], place, value))), [-1])

    def test_five_things_leave_room_for_claims(self):
        told = [thing(1, 1, 1, 1)] * 5
        self.assertEqual(last(*told, claim(1, 1, 1, 1)), [0])

    def test_refused_for_a_value_leaves_all_as_it_was(self):
        self.assertEqual(
            ask(begins(2), thing(1, 1, 2, 2), claim(11, 1, 1, 1), fits(0), claim(1, 1, 1, 1), claim(2, 2, 2, 11),
                fits(0), fits(1), claim(10, 2, 2, 2), fits(1), fits(0)),
            [[0], [0], [-1], [-2], [0], [-1], [1, 0, 2], [-2], [1], [1, 0, 1], [1, 0, 2]])

    def test_refused_as_too_many_leaves_all_as_it_was(self):
        told = [begins(0), thing(0, 0, 0, 4)] + [claim(0, 0, 0, value) for value in range(5)]
        asked = [fits(number) for number in range(6)]
        expected = [[0], [0], [0], [0], [1, 0, 0], [-2]]
        self.assertEqual(
            ask(*told, *asked, claim(0, 0, 0, 4), *asked, claim(0, 0, 0, 11), *asked)[7:],
            expected + [[-5]] + expected + [[-1]] + expected)
