import itertools
import unittest

from tests.lines import HIGHEST, ask, begins, claim, fits, last, put, thing

SAME = (1, 2, 3, 4)
OTHER = (5, 6, 7, 8)
OUT = (10, 10, 10, 10)


class Fits(unittest.TestCase):
    def test_no_claims(self):
        for number in (0, 1, 4, 5, HIGHEST):
            with self.subTest(number=number):
                self.assertEqual(ask(fits(number)), [[-2]])
                self.assertEqual(ask(begins(4), thing(1, 2, 3, 4), fits(number)), [[0], [0], [-2]])

    def test_a_number_too_high(self):
        things = [thing(1, 2, 3, 4)] * 5
        for count in range(1, 6):
            told = things + [claim(1, 2, 3, 4)] * count
            with self.subTest(count=count):
                self.assertEqual(
                    ask(*told, fits(count - 1), fits(count), fits(HIGHEST))[5 + count:],
                    [[5, 0, 0, 1, 0, 2, 0, 3, 0, 4, 0], [-2], [-2]])

    def test_refused_leaves_all_as_it_was(self):
        self.assertEqual(
            ask(begins(1), fits(0), thing(1, 2, 3, 5), fits(0), claim(1, 2, 3, 4), fits(1), fits(0), fits(HIGHEST),
                claim(1, 2, 3, 5), fits(1), fits(0)),
            [[0], [-2], [0], [-2], [0], [-2], [1, 0, 1], [-2], [1], [1, 0, 0], [1, 0, 1]])

    def test_no_things(self):
        for wrong in range(5):
            with self.subTest(wrong=wrong):
                self.assertEqual(
                    ask(begins(wrong), claim(1, 2, 3, 4), claim(10, 10, 10, 10), fits(0), fits(1))[3:], [[0], [0]])

    def test_none_fits(self):
        self.assertEqual(
            last(begins(3), thing(1, 1, 1, 1), thing(2, 2, 2, 2), claim(3, 3, 3, 3), fits(0)), [0])

    def test_each_feature_the_same_or_other_or_left_out(self):
        for wrong in range(5):
            for told in itertools.product(*zip(SAME, OTHER, OUT)):
                errors = len(set(told) & set(OTHER))
                expected = [1, 0, errors] if errors <= wrong else [0]
                with self.subTest(wrong=wrong, told=told):
                    self.assertEqual(last(begins(wrong), thing(*SAME), claim(*told), fits(0)), expected)

    def test_any_other_value_is_one_error(self):
        for place in range(4):
            for had, told in itertools.product(range(10), range(11)):
                errors = 0 if told in (had, 10) else 1
                calls = [thing(*put([5, 5, 5, 5], place, had)), claim(*put([5, 5, 5, 5], place, told)), fits(0)]
                with self.subTest(place=place, had=had, told=told):
                    self.assertEqual(last(begins(1), *calls), [1, 0, errors])
                    self.assertEqual(last(begins(0), *calls), [0] if errors else [1, 0, 0])

    def test_a_value_in_another_place_is_an_error(self):
        self.assertEqual(last(begins(4), thing(1, 2, 3, 4), claim(4, 3, 2, 1), fits(0)), [1, 0, 4])

    def test_errors_differ_from_thing_to_thing_and_stand_in_their_order(self):
        told = [thing(1, 2, 3, 9), thing(9, 9, 9, 9), thing(1, 2, 3, 4), thing(1, 9, 9, 9), thing(9, 2, 9, 4)]
        expected = (
            [1, 2, 0],
            [2, 0, 1, 2, 0],
            [3, 0, 1, 2, 0, 4, 2],
            [4, 0, 1, 2, 0, 3, 3, 4, 2],
            [5, 0, 1, 1, 4, 2, 0, 3, 3, 4, 2])
        for wrong in range(5):
            with self.subTest(wrong=wrong):
                self.assertEqual(last(begins(wrong), *told, claim(1, 2, 3, 4), fits(0)), expected[wrong])

    def test_each_claim_is_asked_by_its_own_number(self):
        told = [begins(1), thing(1, 2, 3, 4), thing(1, 2, 3, 5), thing(6, 6, 6, 6)]
        told += [claim(1, 2, 3, 4), claim(6, 10, 6, 10), claim(1, 2, 10, 5), claim(7, 7, 7, 7), claim(10, 2, 10, 10)]
        self.assertEqual(
            ask(*told, fits(4), fits(3), fits(2), fits(1), fits(0))[9:],
            [[3, 0, 0, 1, 0, 2, 1], [0], [2, 0, 1, 1, 0], [1, 2, 0], [2, 0, 0, 1, 1]])

    def test_things_told_before_the_claim_and_after_it(self):
        self.assertEqual(
            ask(begins(1), thing(1, 2, 3, 4), claim(1, 2, 3, 5), fits(0), thing(1, 2, 3, 5), thing(1, 2, 4, 4), fits(0),
                thing(1, 2, 0, 5), fits(0)),
            [[0], [0], [0], [1, 0, 1], [1], [2], [2, 0, 1, 1, 0], [3], [3, 0, 1, 1, 0, 3, 1]])

    def test_asked_again_answers_the_same(self):
        self.assertEqual(
            ask(begins(2), thing(1, 2, 3, 4), claim(1, 2, 4, 3), fits(0), fits(0), fits(0))[3:], [[1, 0, 2]] * 3)
