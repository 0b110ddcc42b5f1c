import itertools
import unittest

from tests.lines import HIGHEST, ask, begins, best, claim, fits, has, last, office, thing, why


class NoSuchClaim(unittest.TestCase):
    def test_no_claims(self):
        for number in (0, 1, 4, 5, HIGHEST):
            with self.subTest(number=number):
                self.assertEqual(ask(has(number)), [[-2]])
                self.assertEqual(last(*office(4, [(1, 2, 3, 4)] * 5, []), has(number)), [-2])

    def test_a_number_too_high(self):
        for claims in range(1, 6):
            told = office(0, [(1, 2, 3, 4)] * 5, [(1, 2, 3, 4)] * claims)
            with self.subTest(claims=claims):
                self.assertEqual(
                    ask(*told, has(claims), has(HIGHEST), has(claims - 1))[-3:], [[-2], [-2], [5, 0, 1, 2, 3, 4]])

    def test_refused_leaves_all_as_it_was(self):
        self.assertEqual(
            ask(begins(1), thing(1, 2, 3, 4), has(0), claim(1, 2, 3, 5), has(1), fits(0), has(0)),
            [[0], [0], [-2], [0], [-2], [1, 0, 1], [1, 0]])


class NoneIsTheNumberOfThings(unittest.TestCase):
    def test_no_things(self):
        for claims in range(1, 6):
            told = office(4, [], [(10, 10, 10, 10)] * claims)
            for number in range(claims):
                with self.subTest(claims=claims, number=number):
                    self.assertEqual(last(*told, has(number)), [1, 0])

    def test_none_in_all_full_plans(self):
        for things in range(1, 6):
            told = office(0, [(1, 1, 1, 1)] * things, [(1, 1, 1, 1), (2, 2, 2, 2)])
            with self.subTest(things=things):
                self.assertEqual(last(*told, has(1)), [1, things])

    def test_none_in_one_and_a_thing_in_another(self):
        for things in range(1, 6):
            told = office(0, [(1, 1, 1, 1)] + [(2, 2, 2, 2)] * (things - 1), [(1, 1, 1, 1)] * 3)
            for number in range(3):
                with self.subTest(things=things, number=number):
                    self.assertEqual(last(*told, has(number)), [2, 0, things])

    def test_none_stands_last_behind_several_things(self):
        told = office(0, [(1, 1, 1, 1)] * 3, [(1, 1, 1, 1)] * 4)
        self.assertEqual(ask(*told, has(0), has(1), has(3))[-3:], [[4, 0, 1, 2, 3]] * 3)


class TheThings(unittest.TestCase):
    def test_one_thing_in_every_full_plan(self):
        told = office(0, [(2, 2, 2, 2), (1, 1, 1, 1)], [(1, 1, 1, 1), (2, 2, 2, 2)])
        self.assertEqual(ask(*told, has(0), has(1))[-2:], [[1, 1], [1, 0]])

    def test_one_thing_though_another_fits(self):
        # Claim 0 fits both things, but claim 1 thing 0 alone.
        told = office(0, [(1, 1, 1, 1), (1, 1, 1, 2)], [(1, 1, 1, 10), (1, 1, 1, 1)])
        self.assertEqual(ask(*told, fits(0), has(0), has(1))[-3:], [[2, 0, 0, 1, 0], [1, 1], [1, 0]])

    def test_several_things_rising(self):
        told = office(0, [(1, 1, 1, 1), (2, 2, 2, 2), (1, 1, 1, 1), (1, 1, 1, 1)], [(1, 1, 1, 1)])
        self.assertEqual(last(*told, has(0)), [3, 0, 2, 3])

    def test_all_full_plans_count_not_the_best_alone(self):
        told = office(4, [(1, 1, 1, 1), (2, 2, 2, 2)], [(2, 2, 2, 2), (1, 1, 1, 1)])
        self.assertEqual(ask(*told, best(), has(0), has(1))[-3:], [[2, 0, 1, 1, 0], [2, 0, 1], [2, 0, 1]])

    def test_a_plan_that_is_not_full_does_not_count(self):
        told = office(0, [(1, 1, 1, 1), (2, 2, 2, 2)], [(10, 10, 10, 10), (1, 1, 1, 1), (3, 3, 3, 3)])
        self.assertEqual(ask(*told, has(0), has(1), has(2))[-3:], [[1, 1], [1, 0], [1, 2]])

    def test_each_thing_once_of_however_many_plans(self):
        for wrong, told in ((0, (1, 1, 1, 1)), (4, (2, 2, 2, 2)), (0, (10, 10, 10, 10))):
            for number in range(5):
                with self.subTest(told=told, number=number):
                    self.assertEqual(
                        last(*office(wrong, [(1, 1, 1, 1)] * 5, [told] * 5), has(number)), [5, 0, 1, 2, 3, 4])

    def test_things_and_claims_alike(self):
        for things, claims in itertools.product(range(6), range(1, 6)):
            told = office(0, [(1, 1, 1, 1)] * things, [(1, 1, 1, 1)] * claims)
            numbers = list(range(things)) + ([things] if things < claims else [])
            with self.subTest(things=things, claims=claims):
                self.assertEqual(last(*told, has(claims - 1)), [len(numbers)] + numbers)


class AmongOthers(unittest.TestCase):
    def test_changes_nothing(self):
        told = [begins(1), thing(1, 1, 1, 1), claim(1, 1, 1, 2), claim(1, 1, 1, 1)]
        self.assertEqual(
            ask(*told, has(0), has(0), fits(0), why(), thing(1, 1, 1, 3), claim(9, 9, 9, 9), has(0))[4:],
            [[2, 0, 1], [2, 0, 1], [1, 0, 1], [1, 3, 0], [1], [2], [2, 0, 1]])

    def test_without_begins_nothing_may_be_wrong(self):
        self.assertEqual(
            ask(thing(1, 1, 1, 1), claim(1, 1, 1, 2), has(0), claim(1, 1, 1, 1), has(1))[2:], [[1, 1], [1], [1, 0]])

    def test_after_a_begins_in_the_middle(self):
        told = [thing(1, 1, 1, 1), claim(1, 1, 1, 2)]
        self.assertEqual(
            ask(begins(1), *told, has(0), begins(0), has(0), *told, has(0)),
            [[0], [0], [0], [1, 0], [0], [-2], [0], [0], [1, 1]])
