import itertools
import unittest

from tests.lines import ask, begins, best, check, claim, fits, last, office, thing, why


class NoneIsShort(unittest.TestCase):
    def test_no_claims(self):
        self.assertEqual(ask(why()), [[0, 0]])
        for things in range(6):
            with self.subTest(things=things):
                self.assertEqual(last(*office(4, [(1, 2, 3, 4)] * things, []), why()), [0, 0])

    def test_a_thing_for_each_claim(self):
        for things, claims in itertools.product(range(1, 6), range(1, 6)):
            if claims <= things:
                with self.subTest(things=things, claims=claims):
                    self.assertEqual(
                        last(*office(0, [(1, 1, 1, 1)] * things, [(1, 1, 1, 1)] * claims), why()), [0, 0])

    def test_as_many_things_as_claims_in_each_set(self):
        told = office(0, [(1, 1, 1, 1), (1, 1, 1, 2)], [(1, 1, 1, 10), (1, 1, 1, 1)])
        self.assertEqual(last(*told, why()), [0, 0])


class TheShortestSet(unittest.TestCase):
    def test_no_things(self):
        for claims in range(1, 6):
            with self.subTest(claims=claims):
                self.assertEqual(
                    last(*office(4, [], [(10, 10, 10, 10)] * claims), why()), [claims, sum([1, 2, 4, 8, 16][:claims])])

    def test_one_claim_with_nothing_that_fits(self):
        for claims in range(1, 6):
            for place in range(claims):
                things = [(value, value, value, value) for value in range(5)]
                claimed = [(value, value, value, value) for value in range(claims)]
                claimed[place] = (9, 9, 9, 9)
                with self.subTest(claims=claims, place=place):
                    self.assertEqual(last(*office(0, things, claimed), why()), [1, [1, 2, 4, 8, 16][place]])

    def test_together_short_though_none_is_alone(self):
        # Claims 1, 2 and 4 want things 0 and 3 only; claims 0 and 3 have things of their own.
        told = office(
            0, [(1, 1, 1, 1), (2, 2, 2, 2), (3, 3, 3, 3), (1, 1, 1, 2), (4, 4, 4, 4)],
            [(2, 2, 2, 2), (1, 1, 1, 10), (1, 1, 1, 1), (3, 3, 3, 3), (1, 10, 1, 2)])
        self.assertEqual(last(*told, why()), [1, 22, 0, 3])

    def test_by_several_short(self):
        told = office(0, [(1, 1, 1, 1), (2, 2, 2, 2)], [(1, 1, 1, 1)] * 4 + [(2, 2, 2, 2)])
        self.assertEqual(last(*told, why()), [3, 15, 0])
        told = office(0, [(1, 1, 1, 1), (2, 2, 2, 2)], [(2, 2, 2, 2)] + [(1, 1, 1, 1)] * 4)
        self.assertEqual(last(*told, why()), [3, 30, 0])
        told = office(0, [(1, 1, 1, 1)], [(1, 1, 1, 1)] * 5)
        self.assertEqual(last(*told, why()), [4, 31, 0])

    def test_a_shorter_set_though_it_has_the_higher_number(self):
        told = office(0, [(1, 1, 1, 1)], [(2, 2, 2, 2), (1, 1, 1, 1), (3, 3, 3, 3), (4, 4, 4, 4)])
        self.assertEqual(last(*told, why()), [3, 13])

    def test_the_lowest_number_of_several(self):
        # All three claims together are as short as the two that want thing 0.
        told = office(0, [(1, 1, 1, 1), (2, 2, 2, 2)], [(1, 1, 1, 1), (1, 1, 1, 1), (2, 2, 2, 2)])
        self.assertEqual(last(*told, why()), [1, 3, 0])
        told = office(0, [(1, 1, 1, 1), (2, 2, 2, 2)], [(2, 2, 2, 2), (1, 1, 1, 1), (1, 1, 1, 1)])
        self.assertEqual(last(*told, why()), [1, 6, 0])

    def test_short_in_two_places(self):
        told = office(
            0, [(1, 1, 1, 1), (1, 1, 1, 2), (3, 3, 3, 3)],
            [(1, 1, 1, 10), (1, 1, 1, 10), (1, 1, 1, 10), (3, 3, 3, 3), (3, 3, 3, 3)])
        self.assertEqual(last(*told, why()), [2, 31, 0, 1, 2])
        told = office(0, [(1, 1, 1, 1), (3, 3, 3, 3)], [(1, 1, 1, 1), (9, 9, 9, 9), (1, 1, 1, 1), (3, 3, 3, 3)])
        self.assertEqual(last(*told, why()), [2, 7, 0])

    def test_claims_with_things_of_their_own_stay_out_of_the_set(self):
        # They would leave it as short, but its number would be higher.
        told = office(
            0, [(1, 1, 1, 1), (2, 2, 2, 2), (3, 3, 3, 3)],
            [(3, 3, 3, 3), (1, 1, 1, 1), (2, 2, 2, 2), (1, 1, 1, 1)])
        self.assertEqual(last(*told, why()), [1, 10, 0])


class TheThingsThatFit(unittest.TestCase):
    def test_none(self):
        self.assertEqual(last(*office(0, [(1, 1, 1, 1)] * 5, [(2, 2, 2, 2)] * 2), why()), [2, 3])

    def test_rising_and_each_once(self):
        told = office(
            0, [(3, 3, 3, 3), (1, 1, 1, 3), (1, 1, 1, 1), (4, 4, 4, 4), (1, 1, 1, 2)],
            [(1, 1, 1, 2), (1, 1, 1, 1), (1, 1, 1, 3), (1, 1, 1, 10), (1, 1, 1, 10)])
        self.assertEqual(last(*told, why()), [2, 31, 1, 2, 4])

    def test_as_many_errors_as_may_be_fit(self):
        for wrong, errors in itertools.product(range(5), range(5)):
            told = office(wrong, [(1, 1, 1, 1)], [[2] * errors + [1] * (4 - errors)] * 2)
            with self.subTest(wrong=wrong, errors=errors):
                self.assertEqual(last(*told, why()), [1, 3, 0] if errors <= wrong else [2, 3])

    def test_one_claim_of_the_set_is_enough(self):
        told = office(0, [(1, 1, 1, 1), (2, 2, 2, 2)], [(1, 1, 1, 1), (2, 2, 2, 2), (10, 10, 10, 10)])
        self.assertEqual(last(*told, why()), [1, 7, 0, 1])

    def test_5_claims_that_fit_all_things(self):
        self.assertEqual(last(*office(4, [(1, 1, 1, 1)] * 5, [(2, 2, 2, 2)] * 5), why()), [0, 0])
        self.assertEqual(last(*office(4, [(1, 1, 1, 1)] * 4, [(2, 2, 2, 2)] * 5), why()), [1, 31, 0, 1, 2, 3])


class AmongOthers(unittest.TestCase):
    def test_changes_nothing(self):
        told = [begins(1), thing(1, 1, 1, 1), claim(1, 1, 1, 2), claim(1, 1, 1, 1)]
        self.assertEqual(
            ask(*told, why(), why(), fits(0), best(), check(0, 1), thing(9, 9, 9, 9), claim(9, 9, 9, 8), why(),
                claim(9, 9, 9, 9), why())[4:],
            [[1, 3, 0], [1, 3, 0], [1, 0, 1], [1, 0, 1, 1, 0], [1, 1], [1], [2], [1, 3, 0], [3], [2, 15, 0, 1]])

    def test_without_begins_nothing_may_be_wrong(self):
        self.assertEqual(
            ask(thing(1, 1, 1, 1), claim(1, 1, 1, 2), why(), claim(1, 1, 1, 1), why())[2:], [[1, 1], [1], [1, 1]])

    def test_after_a_begins_in_the_middle(self):
        told = [thing(1, 1, 1, 1), claim(1, 1, 1, 2)]
        self.assertEqual(
            ask(begins(1), *told, why(), begins(0), why(), *told, why()),
            [[0], [0], [0], [0, 0], [0], [0, 0], [0], [0], [1, 1]])
