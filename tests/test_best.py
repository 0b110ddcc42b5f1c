import itertools
import unittest

from tests.lines import ask, begins, best, check, claim, fits, has, last, office, thing, why


class NoneCanBeGivenOut(unittest.TestCase):
    def test_no_claims(self):
        self.assertEqual(ask(best()), [[0, 0, 1]])
        for things in range(6):
            with self.subTest(things=things):
                self.assertEqual(last(*office(4, [(1, 2, 3, 4)] * things, []), best()), [0, 0, 1])

    def test_no_things(self):
        for claims in range(1, 6):
            with self.subTest(claims=claims):
                self.assertEqual(
                    last(*office(4, [], [(10, 10, 10, 10)] * claims), best()), [0, 0, 1] + [0] * claims)

    def test_nothing_that_fits(self):
        for things, claims in itertools.product(range(1, 6), range(1, 6)):
            told = office(3, [(1, 1, 1, 1)] * things, [(2, 2, 2, 2)] * claims)
            with self.subTest(things=things, claims=claims):
                self.assertEqual(last(*told, best()), [0, 0, 1] + [things] * claims)


class TheMostGivenOut(unittest.TestCase):
    def test_one_claim_has_its_thing(self):
        self.assertEqual(last(*office(1, [(1, 1, 1, 1)], [(1, 1, 1, 2)]), best()), [1, 1, 1, 0])

    def test_more_is_given_out_though_fewer_would_have_fewer_errors(self):
        # Claim 0 alone would have thing 1 without an error, but no other thing fits claim 1.
        told = office(2, [(1, 1, 3, 3), (1, 1, 1, 1)], [(1, 1, 1, 1), (2, 2, 1, 1)])
        self.assertEqual(last(*told, best()), [2, 4, 1, 0, 1])
        self.assertEqual(last(*told, check(1, 2)), [1, 0])

    def test_a_chain_in_which_each_claim_gives_way_to_the_next(self):
        things = [(1, 1, 1, 1), (1, 1, 1, 2), (1, 1, 2, 2), (1, 2, 2, 2)]
        claims = [(1, 1, 1, 10), (1, 1, 10, 2), (1, 10, 2, 2), (1, 1, 1, 1)]
        self.assertEqual(last(*office(0, things, claims), best()), [4, 0, 1, 1, 2, 3, 0])

    def test_fewer_things_than_claims(self):
        told = office(4, [(1, 1, 1, 1), (2, 2, 2, 2)], [(3, 3, 3, 3), (1, 1, 1, 1), (2, 2, 1, 1), (2, 2, 2, 2)])
        self.assertEqual(last(*told, best()), [2, 0, 1, 2, 0, 2, 1])


class TheFewestErrors(unittest.TestCase):
    def test_the_one_with_fewest_though_it_is_the_latest(self):
        told = office(4, [(1, 1, 1, 1), (2, 2, 2, 2)], [(2, 2, 2, 2), (1, 1, 1, 1)])
        self.assertEqual(last(*told, best()), [2, 0, 1, 1, 0])

    def test_all_errors_together_count(self):
        # Thing 0 to claim 0 makes no errors there, but 3 for claim 1; the other way round they are 1 and 2.
        told = office(3, [(1, 1, 1, 1), (1, 1, 1, 2)], [(1, 1, 1, 1), (3, 3, 1, 1)])
        self.assertEqual(last(*told, best()), [2, 3, 2, 0, 1])
        # Claim 0 has no errors about either thing, claim 1 has 1 about thing 0 and 2 about thing 1.
        told = office(3, [(1, 1, 1, 1), (1, 1, 1, 2)], [(1, 1, 1, 10), (3, 1, 1, 1)])
        self.assertEqual(last(*told, best()), [2, 1, 1, 1, 0])

    def test_a_claim_that_has_none_has_no_errors(self):
        # Claim 1 would have 2 errors about the one thing, claim 0 only 1: claim 1 goes without.
        told = office(2, [(1, 1, 1, 1)], [(1, 1, 1, 2), (1, 1, 2, 2)])
        self.assertEqual(last(*told, best()), [1, 1, 1, 0, 1])
        told = office(2, [(1, 1, 1, 1)], [(1, 1, 2, 2), (1, 1, 1, 2)])
        self.assertEqual(last(*told, best()), [1, 1, 1, 1, 0])

    def test_a_thing_that_has_more_errors_stays(self):
        for place in range(5):
            things = [(3, 3, 3, 3)] * 5
            things[place] = (1, 1, 1, 3)
            with self.subTest(place=place):
                self.assertEqual(last(*office(4, things, [(1, 1, 1, 1)]), best()), [1, 1, 1, place])


class HowManyAreAsGood(unittest.TestCase):
    def test_all_things_and_all_claims_alike(self):
        for things, claims in itertools.product(range(6), range(6)):
            told = office(0, [(1, 2, 3, 4)] * things, [(1, 2, 10, 4)] * claims)
            few = min(things, claims)
            plans = len(list(itertools.permutations(range(max(things, claims)), few)))
            plan = list(range(few)) + [things] * (claims - few)
            with self.subTest(things=things, claims=claims):
                self.assertEqual(last(*told, best()), [few, 0, plans] + plan)

    def test_only_those_with_the_fewest_errors(self):
        told = office(1, [(1, 1, 1, 1), (1, 1, 1, 1), (1, 1, 1, 2)], [(1, 1, 1, 1)])
        self.assertEqual(last(*told, best()), [1, 0, 2, 0])
        told = office(1, [(1, 1, 1, 2), (1, 1, 1, 1), (1, 1, 1, 1)], [(1, 1, 1, 1)])
        self.assertEqual(last(*told, best()), [1, 0, 2, 1])

    def test_only_those_that_are_full(self):
        told = office(0, [(1, 1, 1, 1), (2, 2, 2, 2)], [(1, 1, 1, 1), (10, 10, 10, 10)])
        self.assertEqual(last(*told, best()), [2, 0, 1, 0, 1])

    def test_5_things_and_5_claims_with_errors(self):
        told = office(4, [(1, 1, 1, 1)] * 5, [(2, 2, 2, 2)] * 5)
        self.assertEqual(last(*told, best()), [5, 20, 120, 0, 1, 2, 3, 4])
        told = office(4, [(1, 1, 1, 1)] * 5, [(1, 1, 1, 2)] * 5)
        self.assertEqual(last(*told, best()), [5, 5, 120, 0, 1, 2, 3, 4])

    def test_5_things_and_5_claims_with_one_best_plan(self):
        told = office(
            4, [(value, value, value, value) for value in range(5)],
            [(value, value, value, value) for value in (3, 0, 4, 2, 1)])
        self.assertEqual(last(*told, best()), [5, 0, 1, 3, 0, 4, 2, 1])


class TheEarliest(unittest.TestCase):
    def test_the_lower_number_at_the_first_claim_for_which_they_differ(self):
        # Things 0 and 1 suit claims 0 and 1 either way, things 2 and 3 claims 2 and 3.
        told = office(
            0, [(1, 1, 1, 1), (1, 1, 1, 1), (2, 2, 2, 2), (2, 2, 2, 2)],
            [(2, 2, 2, 2), (2, 2, 2, 2), (1, 1, 1, 1), (1, 1, 1, 1)])
        self.assertEqual(last(*told, best()), [4, 0, 4, 2, 3, 0, 1])

    def test_none_is_later_than_any_thing(self):
        for things in range(1, 6):
            told = office(0, [(1, 1, 1, 1)] + [(2, 2, 2, 2)] * (things - 1), [(1, 1, 1, 1)] * 3)
            with self.subTest(things=things):
                self.assertEqual(last(*told, best()), [1, 0, 3, 0, things, things])

    def test_the_first_claim_has_a_low_number_and_another_has_none(self):
        # Claims 0 and 1 want thing 0, claim 0 also thing 1, which claim 2 wants.
        told = office(
            1, [(1, 1, 1, 1), (1, 1, 2, 2)], [(1, 1, 1, 2), (1, 1, 1, 0), (1, 1, 2, 3)])
        self.assertEqual(last(*told, best()), [2, 2, 3, 0, 2, 1])

    def test_the_earliest_of_the_best_not_of_the_full(self):
        # The plan 0, 1 is full and earlier, but it has more errors.
        told = office(1, [(1, 1, 1, 1), (1, 1, 1, 2), (1, 1, 1, 2)], [(1, 1, 1, 2), (1, 1, 1, 2)])
        self.assertEqual(last(*told, best()), [2, 0, 2, 1, 2])


class AmongOthers(unittest.TestCase):
    def test_changes_nothing(self):
        told = [begins(1), thing(1, 1, 1, 1), claim(1, 1, 1, 2), claim(1, 1, 1, 1)]
        self.assertEqual(
            ask(*told, best(), best(), fits(0), fits(1), thing(1, 1, 1, 2), claim(3, 1, 1, 1), best(), fits(2))[4:],
            [[1, 0, 1, 1, 0], [1, 0, 1, 1, 0], [1, 0, 1], [1, 0, 0], [1], [2], [2, 0, 1, 1, 0, 2], [1, 0, 1]])

    def test_without_begins_nothing_may_be_wrong(self):
        self.assertEqual(
            ask(thing(1, 1, 1, 1), claim(1, 1, 1, 2), best(), claim(1, 1, 1, 1), best())[2:],
            [[0, 0, 1, 1], [1], [1, 0, 1, 1, 0]])

    def test_after_a_begins_in_the_middle(self):
        told = [thing(1, 1, 1, 1), claim(1, 1, 1, 2)]
        self.assertEqual(
            ask(begins(1), *told, best(), begins(0), best(), *told, best()),
            [[0], [0], [0], [1, 1, 1, 0], [0], [0, 0, 1], [0], [0], [0, 0, 1, 1]])

    def test_what_is_answered_may_be_asked_of_check(self):
        told = office(1, [(1, 1, 1, 1), (1, 1, 1, 2)], [(1, 1, 1, 2), (1, 1, 1, 1), (1, 1, 1, 3)])
        given = ask(*told, best(), has(0), has(2), why())[-4:]
        self.assertEqual(given, [[2, 0, 1, 1, 0, 2], [3, 0, 1, 2], [3, 0, 1, 2], [1, 7, 0, 1]])
        self.assertEqual(last(*told, check(1, 0, 2)), [2, 0])
