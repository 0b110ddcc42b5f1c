import unittest

from tests.lines import HIGHEST, ask, begins, claim, fits, last, thing


class Begins(unittest.TestCase):
    def test_answers_0(self):
        for wrong in range(5):
            with self.subTest(wrong=wrong):
                self.assertEqual(ask(begins(wrong)), [[0]])

    def test_above_4_is_refused(self):
        for wrong in (5, 6, 9, 10, HIGHEST):
            with self.subTest(wrong=wrong):
                self.assertEqual(ask(begins(wrong)), [[-1]])

    def test_takes_the_things_away(self):
        self.assertEqual(
            ask(begins(4), thing(1, 1, 1, 1), thing(2, 2, 2, 2), begins(4), claim(1, 1, 1, 1), fits(0),
                thing(3, 3, 3, 3), fits(0)),
            [[0], [0], [1], [0], [0], [0], [0], [1, 0, 4]])

    def test_takes_the_claims_away(self):
        self.assertEqual(
            ask(claim(1, 1, 1, 1), claim(2, 2, 2, 2), begins(0), fits(0), claim(3, 3, 3, 3), fits(0), fits(1)),
            [[0], [1], [0], [-2], [0], [0], [-2]])

    def test_makes_room_again(self):
        things = [thing(1, 1, 1, 1)] * 5
        claims = [claim(1, 1, 1, 1)] * 5
        given = ask(*things, *claims, begins(0), *things, *claims, thing(1, 1, 1, 1), claim(1, 1, 1, 1))
        self.assertEqual(given[10:], [[0]] + [[0], [1], [2], [3], [4]] * 2 + [[-5], [-5]])

    def test_sets_how_many_may_be_wrong(self):
        told = [thing(1, 1, 1, 1), thing(1, 1, 1, 2), thing(1, 1, 2, 2), thing(1, 2, 2, 2), thing(2, 2, 2, 2)]
        for before in range(5):
            for wrong in range(5):
                with self.subTest(before=before, wrong=wrong):
                    expected = [wrong + 1]
                    for number in range(wrong + 1):
                        expected += [number, number]
                    self.assertEqual(
                        last(begins(before), begins(wrong), *told, claim(1, 1, 1, 1), fits(0)), expected)

    def test_refused_leaves_all_as_it_was(self):
        told = [begins(1), thing(1, 2, 3, 4), thing(1, 2, 3, 5), thing(1, 2, 5, 5), claim(1, 2, 3, 4)]
        for wrong in (5, HIGHEST):
            with self.subTest(wrong=wrong):
                self.assertEqual(
                    ask(*told, fits(0), begins(wrong), fits(0), thing(9, 9, 9, 9), claim(9, 9, 9, 9), fits(1))[5:],
                    [[2, 0, 0, 1, 1], [-1], [2, 0, 0, 1, 1], [3], [1], [1, 3, 0]])

    def test_refused_at_first_lets_nothing_be_wrong(self):
        self.assertEqual(
            ask(begins(5), thing(1, 1, 1, 1), claim(1, 1, 1, 2), fits(0)),
            [[-1], [0], [0], [0]])
