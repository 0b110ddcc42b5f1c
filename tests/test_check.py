import itertools
import unittest

from tests.lines import HIGHEST, ask, begins, check, claim, fits, last, office, thing

# Claim 0 fits things 0 and 1, claim 1 things 1 and 2, claim 2 thing 2 alone.
THREE = office(1, [(1, 1, 1, 1), (1, 1, 1, 2), (1, 1, 2, 2)], [(1, 1, 1, 1), (1, 1, 5, 2), (1, 3, 2, 2)])
# Every claim fits every thing, with as many errors as the thing's own number.
ALL = office(4, [(0, 0, 0, 0), (1, 0, 0, 0), (1, 1, 0, 0), (1, 1, 1, 0), (1, 1, 1, 1)], [(0, 0, 0, 0)] * 5)


class ANumberForEachClaim(unittest.TestCase):
    def test_no_claims(self):
        self.assertEqual(ask(check()), [[0, 0]])
        self.assertEqual(ask(*office(4, [(1, 2, 3, 4)] * 5, []), check())[-1], [0, 0])

    def test_no_claims_and_some_numbers(self):
        for count in range(1, 7):
            for number in (0, 1, HIGHEST):
                with self.subTest(count=count, number=number):
                    self.assertEqual(ask(check(*[number] * count)), [[-1]])
                    self.assertEqual(
                        last(begins(4), thing(1, 2, 3, 4), check(*[number] * count)), [-1])

    def test_too_few_and_too_many_numbers(self):
        for claims in range(1, 6):
            told = office(4, [(1, 2, 3, 4)] * 2, [(1, 2, 3, 4)] * claims)
            for count in range(7):
                expected = [0, 0] if count == claims else [-1]
                with self.subTest(claims=claims, count=count):
                    self.assertEqual(last(*told, check(*[2] * count)), expected)

    def test_too_few_numbers_are_refused_ahead_of_a_thing_that_does_not_fit_or_stands_twice(self):
        told = office(0, [(1, 1, 1, 1)], [(1, 1, 1, 1), (2, 2, 2, 2), (1, 1, 1, 1)])
        for plan in ((0, 0), (0, 0, 0, 0), (0,), (1, 0), (0, 1, 0, 0)):
            with self.subTest(plan=plan):
                self.assertEqual(last(*told, check(*plan)), [-1])


class ANumberThatIsAThingOrNone(unittest.TestCase):
    def test_none_is_the_number_of_things(self):
        for things in range(6):
            told = office(4, [(1, 2, 3, 4)] * things, [(1, 2, 3, 4)])
            for number in range(8):
                expected = [-1] if number > things else [0, 0] if number == things else [1, 0]
                with self.subTest(things=things, number=number):
                    self.assertEqual(last(*told, check(number)), expected)

    def test_a_number_too_high_in_each_place(self):
        for claims in range(1, 6):
            told = office(4, [(1, 2, 3, 4)] * 3, [(1, 2, 3, 4)] * claims)
            for place, number in itertools.product(range(claims), (4, 5, 10, HIGHEST)):
                plan = [3] * claims
                plan[place] = number
                with self.subTest(claims=claims, place=place, number=number):
                    self.assertEqual(last(*told, check(*plan)), [-1])

    def test_a_number_too_high_is_refused_ahead_of_what_else_is_wrong(self):
        told = office(0, [(1, 1, 1, 1)], [(1, 1, 1, 1), (2, 2, 2, 2), (1, 1, 1, 1)])
        self.assertEqual(last(*told, check(1, 0, 2)), [-1])
        self.assertEqual(last(*told, check(0, 2, 0)), [-1])
        self.assertEqual(last(*told, check(0, 0, HIGHEST)), [-1])

    def test_no_things(self):
        for claims in range(1, 6):
            told = office(4, [], [(10, 10, 10, 10)] * claims)
            with self.subTest(claims=claims):
                self.assertEqual(last(*told, check(*[0] * claims)), [0, 0])
                self.assertEqual(last(*told, check(*[1] * claims)), [-1])
                self.assertEqual(last(*told, check(*[0] * (claims - 1), 1)), [-1])

    def test_none_goes_up_with_the_things(self):
        self.assertEqual(
            ask(begins(0), claim(1, 1, 1, 1), check(0), check(1), thing(1, 1, 1, 1), check(0), check(1), check(2),
                thing(2, 2, 2, 2), check(0), check(1), check(2), check(3))[2:],
            [[0, 0], [-1], [0], [1, 0], [0, 0], [-1], [1], [1, 0], [-6, 0], [0, 0], [-1]])


class AThingThatDoesNotFit(unittest.TestCase):
    def test_the_claim_stands_behind(self):
        for place in range(5):
            told = office(3, [(1, 1, 1, 1)], [(2, 2, 2, 2)] * 5)
            plan = [1] * 5
            plan[place] = 0
            with self.subTest(place=place):
                self.assertEqual(last(*told, check(*plan)), [-6, place])

    def test_the_first_of_several(self):
        self.assertEqual(last(*THREE, check(2, 0, 0)), [-6, 0])
        self.assertEqual(last(*THREE, check(0, 0, 0)), [-6, 1])
        self.assertEqual(last(*THREE, check(3, 0, 1)), [-6, 1])
        self.assertEqual(last(*THREE, check(1, 2, 1)), [-6, 2])
        self.assertEqual(last(*THREE, check(3, 3, 0)), [-6, 2])

    def test_ahead_of_a_thing_twice(self):
        self.assertEqual(last(*THREE, check(1, 1, 0)), [-6, 2])
        self.assertEqual(last(*THREE, check(1, 1, 1)), [-6, 2])
        told = office(0, [(1, 1, 1, 1), (2, 2, 2, 2)], [(1, 1, 1, 1)] * 4)
        self.assertEqual(last(*told, check(0, 0, 0, 1)), [-6, 3])
        self.assertEqual(last(*told, check(0, 0, 1, 0)), [-6, 2])
        self.assertEqual(last(*told, check(1, 1, 0, 0)), [-6, 0])

    def test_as_many_errors_as_may_be_fit_and_one_more_does_not(self):
        for wrong, errors in itertools.product(range(5), range(5)):
            told = office(wrong, [(1, 1, 1, 1)], [[2] * errors + [1] * (4 - errors)])
            with self.subTest(wrong=wrong, errors=errors):
                self.assertEqual(last(*told, check(0)), [1, errors] if errors <= wrong else [-6, 0])

    def test_what_is_left_out_is_no_error(self):
        told = office(0, [(1, 1, 1, 1)], [(10, 10, 10, 10), (10, 1, 10, 1), (10, 1, 10, 2)])
        self.assertEqual(
            ask(*told, check(0, 1, 1), check(1, 0, 1), check(1, 1, 0))[-3:], [[1, 0], [1, 0], [-6, 2]])


class AThingTwice(unittest.TestCase):
    def test_the_claim_that_has_it_after_another(self):
        for first, second in itertools.combinations(range(5), 2):
            for number in range(5):
                plan = [5] * 5
                plan[first] = plan[second] = number
                with self.subTest(first=first, second=second, number=number):
                    self.assertEqual(last(*ALL, check(*plan)), [-7, second])

    def test_the_first_of_several(self):
        self.assertEqual(last(*ALL, check(0, 1, 1, 0, 1)), [-7, 2])
        self.assertEqual(last(*ALL, check(0, 1, 2, 0, 1)), [-7, 3])
        self.assertEqual(last(*ALL, check(3, 3, 3, 3, 3)), [-7, 1])
        self.assertEqual(last(*ALL, check(0, 1, 2, 3, 0)), [-7, 4])
        self.assertEqual(last(*ALL, check(5, 4, 5, 5, 4)), [-7, 4])

    def test_two_things_alike_are_two(self):
        told = office(0, [(1, 1, 1, 1)] * 2, [(1, 1, 1, 1)] * 2)
        self.assertEqual(last(*told, check(0, 1)), [2, 0])
        self.assertEqual(last(*told, check(1, 0)), [2, 0])
        self.assertEqual(last(*told, check(1, 1)), [-7, 1])

    def test_none_of_several_claims_is_no_thing_twice(self):
        self.assertEqual(last(*ALL, check(5, 5, 5, 5, 5)), [0, 0])
        self.assertEqual(last(*ALL, check(5, 3, 5, 5, 5)), [1, 3])
        self.assertEqual(last(*THREE, check(3, 3, 2)), [1, 1])
        self.assertEqual(last(*THREE, check(3, 1, 3)), [1, 1])


class APlanThatCanBe(unittest.TestCase):
    def test_how_many_it_gives_out_and_its_errors(self):
        self.assertEqual(last(*THREE, check(0, 1, 2)), [3, 2])
        self.assertEqual(last(*THREE, check(1, 2, 3)), [2, 2])
        self.assertEqual(last(*THREE, check(1, 3, 2)), [2, 2])
        self.assertEqual(last(*THREE, check(0, 2, 3)), [2, 1])

    def test_one_that_gives_out_fewer_than_could_be(self):
        self.assertEqual(last(*THREE, check(3, 3, 3)), [0, 0])
        self.assertEqual(last(*THREE, check(0, 3, 3)), [1, 0])
        self.assertEqual(last(*THREE, check(1, 3, 3)), [1, 1])
        self.assertEqual(last(*THREE, check(0, 1, 3)), [2, 1])

    def test_errors_of_the_claims_that_have_a_thing_alone(self):
        for count in range(6):
            for numbers in itertools.combinations(range(5), count):
                plan = list(numbers) + [5] * (5 - count)
                with self.subTest(plan=plan):
                    self.assertEqual(last(*ALL, check(*plan)), [count, sum(numbers)])
                    self.assertEqual(last(*ALL, check(*reversed(plan))), [count, sum(numbers)])

    def test_the_most_errors_that_there_are(self):
        told = office(4, [(1, 2, 3, 4)] * 5, [(5, 5, 5, 5)] * 5)
        self.assertEqual(last(*told, check(4, 2, 0, 1, 3)), [5, 20])

    def test_changes_nothing(self):
        told = [begins(1), thing(1, 1, 1, 1), claim(1, 1, 1, 2), claim(5, 5, 5, 5)]
        asked = [check(0, 1), check(1, 0), check(0, 0), check(2, 0), check(0), fits(0), fits(1)]
        given = [[1, 1], [-6, 1], [-6, 1], [-1], [-1], [1, 0, 1], [0]]
        self.assertEqual(
            ask(*told, *asked, *asked, thing(5, 5, 5, 5), claim(1, 1, 1, 1), check(0, 1, 2), check(0, 1, 0),
                check(0, 1, HIGHEST), fits(1), fits(2)),
            [[0], [0], [0], [1]] + given * 2 + [[1], [2], [2, 1], [-7, 2], [-1], [1, 1, 0], [1, 0, 0]])
