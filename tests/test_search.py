"""Holds the answers against a plain search over all plans and all sets of claims."""

import itertools
import unittest

from tests.lines import HIGHEST, ask, begins, best, check, claim, fits, has, last, office, thing, why

MOST_CHECKED = 40
LINES = 150


def numbers_from(seed):
    """A row of numbers that look mixed, the same whenever it begins with this seed."""
    state = seed * 7919 + 12345
    while True:
        state = (state * 1103515245 + 12345) % 2147483648
        yield state // 65536


def mixed_office(seed, things, claims, values, left_out):
    """Things and claims of so many values; one value of left_out is left out (0: none)."""
    row = numbers_from(seed)
    had = [tuple([next(row) % values for place in range(4)]) for number in range(things)]
    told = []
    for number in range(claims):
        claimed = []
        for place in range(4):
            out = left_out > 0 and next(row) % left_out == 0
            claimed.append(10 if out else next(row) % values)
        told.append(tuple(claimed))
    return had, told


def many_offices():
    seed = 0
    for things, claims, wrong in itertools.product(range(6), range(6), range(5)):
        for values, left_out in ((2, 0), (2, 4), (3, 3), (10, 2)):
            seed += 1
            yield wrong, *mixed_office(seed, things, claims, values, left_out)


class Search:
    """All that the words say of an office, found by going through everything."""

    def __init__(self, wrong, things, claims):
        self.wrong = wrong
        self.things = things
        self.claims = claims
        self.none = len(things)
        self.found = {}

    def plans(self):
        return list(itertools.product(range(self.none + 1), repeat=len(self.claims)))

    def full(self):
        # Things and claims are only ever added, so their counts tell whether the search is still good.
        counts = (self.none, len(self.claims))
        if counts not in self.found:
            told = [(self.check(plan)[0], plan) for plan in self.plans()]
            most = max(out for out, plan in told)
            self.found[counts] = [plan for out, plan in told if out == most]
        return self.found[counts]

    def errors(self, claim, thing):
        pairs = zip(self.claims[claim], self.things[thing])
        return sum(1 for said, had in pairs if said not in (10, had))

    def fit(self, claim, thing):
        return self.errors(claim, thing) <= self.wrong

    def fits(self, claim):
        if claim >= len(self.claims):
            return [-2]
        found = [thing for thing in range(self.none) if self.fit(claim, thing)]
        answer = [len(found)]
        for thing in found:
            answer += [thing, self.errors(claim, thing)]
        return answer

    def check(self, plan):
        if len(plan) != len(self.claims) or any(number > self.none for number in plan):
            return [-1]
        given = [(claim, thing) for claim, thing in enumerate(plan) if thing != self.none]
        for claim, thing in given:
            if not self.fit(claim, thing):
                return [-6, claim]
        seen = []
        for claim, thing in given:
            if thing in seen:
                return [-7, claim]
            seen.append(thing)
        return [len(given), sum(self.errors(claim, thing) for claim, thing in given)]

    def best(self):
        full = self.full()
        told = [self.check(plan) for plan in full]
        fewest = min(errors for out, errors in told)
        good = [plan for plan, (out, errors) in zip(full, told) if errors == fewest]
        return [told[0][0], fewest, len(good), *min(good)]

    def has(self, claim):
        if claim >= len(self.claims):
            return [-2]
        numbers = sorted({plan[claim] for plan in self.full()})
        return [len(numbers), *numbers]

    def why(self):
        shortest = [0, 0]
        for count in range(len(self.claims) + 1):
            for group in itertools.combinations(range(len(self.claims)), count):
                things = [thing for thing in range(self.none) if any(self.fit(claim, thing) for claim in group)]
                short = max(0, count - len(things))
                number = sum(2 ** claim for claim in group)
                if (-short, number) < (-shortest[0], shortest[1]):
                    shortest = [short, number, *things]
        return shortest


def some_of(plans):
    """All plans, if they are few, else as many as a line may ask, from all over."""
    step = len(plans) // MOST_CHECKED + 1
    return plans[::step]


class AgainstThePlainSearch(unittest.TestCase):
    def test_offices_of_many_sizes(self):
        for wrong, things, claims in many_offices():
            search = Search(wrong, things, claims)
            told = office(wrong, things, claims)
            with self.subTest(wrong=wrong, things=things, claims=claims):
                self.assertEqual(ask(*told, best(), why())[-2:], [search.best(), search.why()])
                for claim in range(len(claims)):
                    self.assertEqual(last(*told, has(claim)), search.has(claim))
                asked = some_of(search.plans())
                self.assertEqual(
                    ask(*told, *[check(*plan) for plan in asked])[len(told):], [search.check(plan) for plan in asked])

    def test_every_plan_of_some_offices(self):
        for wrong in range(5):
            things, claims = mixed_office(wrong, 3, 4, 3, 4)
            search = Search(wrong, things, claims)
            for plan in search.plans():
                with self.subTest(wrong=wrong, plan=plan):
                    self.assertEqual(last(*office(wrong, things, claims), check(*plan)), search.check(plan))

    def test_the_offices_are_of_every_kind(self):
        # Else the comparison would say little.
        found = {"short": 0, "several short": 0, "several as good": 0, "errors": 0, "none of some": 0, "twice": 0}
        for wrong, things, claims in many_offices():
            search = Search(wrong, things, claims)
            given, short = search.best(), search.why()
            found["short"] += short[0] == 1
            found["several short"] += short[0] > 1 and len(short) > 2
            found["several as good"] += given[2] > 1
            found["errors"] += given[1] > 0
            found["none of some"] += len(things) in given[3:] and given[0] > 0
            found["twice"] += any(search.check(plan)[0] == -7 for plan in some_of(search.plans()))
        for kind, count in found.items():
            with self.subTest(kind=kind):
                self.assertGreater(count, 20)


class WhatTheyTellTogether(unittest.TestCase):
    def test_best_gives_out_as_many_as_claims_less_the_shortness(self):
        for wrong, things, claims in many_offices():
            with self.subTest(wrong=wrong, things=things, claims=claims):
                given, short = ask(*office(wrong, things, claims), best(), why())[-2:]
                self.assertEqual(given[0], len(claims) - short[0])

    def test_check_takes_the_best_plan(self):
        for wrong, things, claims in many_offices():
            with self.subTest(wrong=wrong, things=things, claims=claims):
                told = office(wrong, things, claims)
                given = last(*told, best())
                self.assertEqual(last(*told, check(*given[3:])), given[:2])

    def test_every_thing_of_the_best_plan_is_among_has(self):
        for wrong, things, claims in many_offices():
            with self.subTest(wrong=wrong, things=things, claims=claims):
                told = office(wrong, things, claims)
                given = last(*told, best())
                for claim, number in enumerate(given[3:]):
                    numbers = last(*told, has(claim))
                    self.assertEqual(numbers[0], len(numbers) - 1)
                    self.assertIn(number, numbers[1:])

    def test_why_tells_the_things_that_fit_its_set(self):
        for wrong, things, claims in many_offices():
            search = Search(wrong, things, claims)
            with self.subTest(wrong=wrong, things=things, claims=claims):
                short, group, *found = last(*office(wrong, things, claims), why())
                members = [claim for claim in range(len(claims)) if group // 2 ** claim % 2]
                self.assertEqual(short, len(members) - len(found))
                self.assertEqual(
                    found,
                    [thing for thing in range(len(things)) if any(search.fit(claim, thing) for claim in members)])


class MixedLine:
    """A line of all kinds of calls, mixed, with what the plain search answers to each of them."""

    def __init__(self, seed):
        self.row = numbers_from(seed)
        self.search = Search(0, [], [])
        self.calls = []
        self.expected = []
        self.searched = 0
        # Some lines begin an office seldom and so come to more things and claims.
        self.seldom = 1 + seed % 20
        if seed % 3 > 0:
            self.begin()
        while len(self.calls) < 60:
            self.add()

    def below(self, limit):
        return next(self.row) % limit

    def feature(self, highest):
        """Mostly low, so that many a claim is right; seldom too high."""
        drawn = self.below(40)
        if drawn == 0:
            return (highest + 1, highest + 2, HIGHEST)[self.below(3)]
        return self.below(highest + 1) if drawn < 4 else self.below(3)

    def number(self, count):
        """Mostly one of so many, else too high."""
        drawn = self.below(12)
        if drawn == 0 or count == 0:
            return (count, count + 1, HIGHEST)[self.below(3)]
        return self.below(count)

    def plan(self):
        count = len(self.search.claims)
        if self.below(8) == 0:
            count = self.below(7)
        if self.below(8) == 0:
            return [self.number(self.search.none + 1) for place in range(count)]
        # None of many claims, so that a plan can be now and then.
        return [(self.below(self.search.none + 1), self.search.none)[self.below(2)] for place in range(count)]

    def take(self, kept, highest, made):
        features = [self.feature(highest) for place in range(4)]
        self.calls.append(made(*features))
        if max(features) > highest:
            self.expected.append([-1])
        elif len(kept) == 5:
            self.expected.append([-5])
        else:
            self.expected.append([len(kept)])
            kept.append(tuple(features))
        self.search.none = len(self.search.things)

    def begin(self):
        wrong = (self.below(5), 2, 3, 5, HIGHEST)[self.below(5)]
        self.calls.append(begins(wrong))
        self.expected.append([-1] if wrong > 4 else [0])
        if wrong <= 4:
            self.search = Search(wrong, [], [])

    def add(self):
        drawn = self.below(12)
        search = self.search
        if drawn == 0:
            if self.below(self.seldom) == 0:
                self.begin()
        elif drawn <= 2:
            self.take(search.things, 9, thing)
        elif drawn <= 4:
            self.take(search.claims, 10, claim)
        elif drawn <= 6:
            plan = self.plan()
            self.calls.append(check(*plan))
            self.expected.append(search.check(plan))
        elif drawn <= 8:
            self.calls.append(why())
            self.expected.append(search.why())
        elif drawn == 9:
            number = self.number(len(search.claims))
            self.calls.append(fits(number))
            self.expected.append(search.fits(number))
        elif self.searched < 3 and self.below(3) == 0:
            self.searched += 1
            number = self.number(len(search.claims))
            self.calls.append(best() if drawn == 10 else has(number))
            self.expected.append(search.best() if drawn == 10 else search.has(number))


class MixedLines(unittest.TestCase):
    @classmethod
    def setUpClass(cls):
        cls.lines = [MixedLine(seed) for seed in range(LINES)]

    def test_60_calls_in_any_order(self):
        for seed, mixed in enumerate(self.lines):
            with self.subTest(seed=seed):
                self.assertEqual(ask(*mixed.calls), mixed.expected)

    def test_the_lines_hold_every_answer(self):
        # Else the comparison would say little.
        found = {}
        for mixed in self.lines:
            for called, answer in zip(mixed.calls, mixed.expected):
                kind = (called[0], min(answer[0], 0))
                found[kind] = found.get(kind, 0) + 1
        wanted = [(0, 0), (0, -1), (1, 0), (1, -1), (1, -5), (2, 0), (2, -1), (2, -5), (3, 0), (3, -2)]
        wanted += [(4, 0), (4, -1), (4, -6), (4, -7), (5, 0), (6, 0), (6, -2), (7, 0)]
        self.assertEqual(sorted(found), sorted(wanted))
        self.assertGreater(min(found.values()), 9, found)
