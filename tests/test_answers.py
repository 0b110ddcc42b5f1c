import inspect
import unittest

import lostthings.office
from lostthings.office import answers
from tests.lines import HIGHEST, ask, begins, best, check, claim, fits, has, line, office, thing, why

TOLD = line(
    begins(1), thing(1, 2, 3, 4), thing(1, 2, 3, 5), claim(1, 2, 3, 4), fits(0), fits(1), thing(10, 0, 0, 0),
    claim(11, 0, 0, 0), begins(5), fits(0))
GIVEN = [1, 0, 1, 0, 1, 1, 1, 0, 5, 2, 0, 0, 1, 1, 1, -2, 1, -1, 1, -1, 1, -1, 5, 2, 0, 0, 1, 1]
# Two things, three claims, all the calls that ask about plans, and their refusals.
PLANNED = TOLD + line(
    claim(1, 2, 3, 10), claim(9, 9, 9, 9), check(0, 1, 2), check(0, 0, 2), check(0, 1, 0), check(0, 3, 2), check(),
    best(), has(0), why(), has(3))
PLANNED_GIVEN = GIVEN + [
    1, 1, 1, 2, 2, 2, 0, 2, -7, 1, 2, -6, 2, 1, -1, 1, -1, 6, 2, 0, 1, 0, 1, 2, 3, 2, 0, 1, 2, 1, 4, 1, -2]


def refuse(*told, **named):
    raise AssertionError("the list that was handed in is changed")


class Untouched(list):
    """A list that tells when it is changed, be it for a while."""

    __setitem__ = __delitem__ = __iadd__ = __imul__ = refuse
    append = extend = insert = pop = remove = clear = sort = reverse = refuse


class Answers(unittest.TestCase):
    def test_is_a_plain_def_of_its_file(self):
        self.assertTrue(inspect.isfunction(answers))
        self.assertEqual(answers.__module__, "lostthings.office")
        self.assertEqual(list(inspect.signature(answers).parameters), ["calls"])
        self.assertIs(lostthings.office.answers, answers)

    def test_each_answer_has_its_count_ahead(self):
        self.assertEqual(answers(list(TOLD)), GIVEN)
        self.assertEqual(answers(list(PLANNED)), PLANNED_GIVEN)

    def test_gives_back_a_list_of_whole_numbers(self):
        given = answers(list(PLANNED))
        self.assertIs(type(given), list)
        self.assertEqual({type(number) for number in given}, {int})

    def test_nothing_is_there_without_begins(self):
        self.assertEqual(ask(fits(0)), [[-2]])
        self.assertEqual(ask(claim(10, 10, 10, 10), fits(0), fits(1)), [[0], [0], [-2]])
        self.assertEqual(ask(thing(1, 1, 1, 1), fits(0)), [[0], [-2]])

    def test_nothing_may_be_wrong_without_begins(self):
        self.assertEqual(
            ask(thing(1, 1, 1, 1), thing(1, 1, 1, 2), thing(2, 1, 1, 1), claim(1, 1, 1, 1), fits(0)),
            [[0], [1], [2], [0], [1, 0, 0]])

    def test_lines_of_one_call(self):
        self.assertEqual(answers(begins(4)), [1, 0])
        self.assertEqual(answers(begins(HIGHEST)), [1, -1])
        self.assertEqual(answers(thing(0, 0, 0, 0)), [1, 0])
        self.assertEqual(answers(thing(HIGHEST, HIGHEST, HIGHEST, HIGHEST)), [1, -1])
        self.assertEqual(answers(claim(0, 0, 0, 0)), [1, 0])
        self.assertEqual(answers(claim(HIGHEST, HIGHEST, HIGHEST, HIGHEST)), [1, -1])
        self.assertEqual(answers(fits(0)), [1, -2])
        self.assertEqual(answers(check()), [2, 0, 0])
        self.assertEqual(answers(check(0)), [1, -1])
        self.assertEqual(answers(check(*[HIGHEST] * 6)), [1, -1])
        self.assertEqual(answers(best()), [3, 0, 0, 1])
        self.assertEqual(answers(has(0)), [1, -2])
        self.assertEqual(answers(why()), [2, 0, 0])

    def test_a_line_of_60_calls(self):
        things = [thing(value, value, value, value) for value in range(5)]
        claims = [claim(value, 10, 10, value) for value in range(5)]
        asked = [fits(number % 6) for number in range(49)]
        expected = [[1, 0, 0], [1, 1, 0], [1, 2, 0], [1, 3, 0], [1, 4, 0], [-2]]
        self.assertEqual(
            ask(begins(1), *things, *claims, *asked),
            [[0]] + [[0], [1], [2], [3], [4]] * 2 + [expected[number % 6] for number in range(49)])

    def test_60_calls_about_5_things_and_5_claims(self):
        told = office(4, [(1, 1, 1, 1)] * 5, [(1, 1, 1, 2)] * 5)
        plans = [check(0, 1, 2, 3, 4), check(4, 3, 2, 1, 0), check(5, 5, 5, 5, 0), check(0, 0, 5, 5, 5), check(6)]
        given = [[5, 5], [5, 5], [1, 1], [-7, 1], [-1]]
        full = [5, 5, 120, 0, 1, 2, 3, 4]
        several = [5, 0, 1, 2, 3, 4]
        self.assertEqual(
            ask(*told, *plans * 4, best(), *plans, has(0), *plans, has(4), *plans * 2, *[why()] * 6)[11:],
            given * 4 + [full] + given + [several] + given + [several] + given * 2 + [[0, 0]] * 6)
        self.assertEqual(
            ask(*told, *[why()] * 46, best(), best(), best())[11:], [[0, 0]] * 46 + [full] * 3)

    def test_60_calls_that_end_with_the_longest_search(self):
        things = [thing(value, value, value, value) for value in range(5)]
        claims = [claim(value, value, value, value) for value in (4, 3, 2, 1, 0)]
        asked = [fits(5), check(4, 3, 2, 1, 0), why()] * 15 + [fits(0)]
        self.assertEqual(
            ask(begins(4), *things, *claims, *asked, best(), has(2), has(5))[11:],
            [[-2], [5, 0], [0, 0]] * 15 + [[5, 0, 4, 1, 4, 2, 4, 3, 4, 4, 0]]
            + [[5, 0, 1, 4, 3, 2, 1, 0], [5, 0, 1, 2, 3, 4], [-2]])

    def test_60_calls_of_one_kind(self):
        self.assertEqual(ask(*[begins(4), begins(5)] * 30), [[0], [-1]] * 30)
        self.assertEqual(ask(*[thing(9, 9, 9, 9)] * 60), [[0], [1], [2], [3], [4]] + [[-5]] * 55)
        self.assertEqual(ask(*[claim(10, 9, 9, 9)] * 60), [[0], [1], [2], [3], [4]] + [[-5]] * 55)
        self.assertEqual(ask(*[fits(0)] * 60), [[-2]] * 60)
        self.assertEqual(ask(*[check()] * 60), [[0, 0]] * 60)
        self.assertEqual(ask(*[check(0, 0, 0, 0, 0, 0)] * 60), [[-1]] * 60)
        self.assertEqual(ask(*[why()] * 60), [[0, 0]] * 60)

    def test_all_is_begun_anew_in_the_middle_of_a_line(self):
        told = [thing(1, 2, 3, 4), claim(1, 2, 3, 5), fits(0)]
        self.assertEqual(
            ask(begins(1), *told, begins(0), *told, begins(4), *told),
            [[0], [0], [0], [1, 0, 1], [0], [0], [0], [0], [0], [0], [0], [1, 0, 1]])

    def test_the_list_handed_in_is_the_same_afterwards(self):
        handed = list(PLANNED)
        answers(handed)
        self.assertEqual(handed, PLANNED)

    def test_the_list_handed_in_is_not_changed_for_a_while(self):
        handed = Untouched(PLANNED)
        self.assertEqual(answers(handed), PLANNED_GIVEN)
        self.assertEqual(list(handed), PLANNED)

    def test_the_same_line_answers_the_same_with_others_between(self):
        others = [
            begins(4), fits(0), line(thing(1, 1, 1, 1), claim(1, 1, 1, 1)),
            line(begins(3), *[claim(1, 1, 1, 1)] * 5),
            line(*office(4, [(1, 1, 1, 1)] * 5, [(1, 1, 1, 2)] * 5), best(), has(0), why(), check(0, 1, 2, 3, 4))]
        unbegun = line(fits(0), thing(1, 2, 3, 4), claim(1, 2, 3, 5), fits(0))
        for other in others:
            with self.subTest(other=other):
                self.assertEqual(answers(list(TOLD)), GIVEN)
                self.assertEqual(answers(list(unbegun)), [1, -2, 1, 0, 1, 0, 1, 0])
                answers(list(other))
                self.assertEqual(answers(list(unbegun)), [1, -2, 1, 0, 1, 0, 1, 0])
                self.assertEqual(answers(list(TOLD)), GIVEN)
                self.assertEqual(answers(list(PLANNED)), PLANNED_GIVEN)

    def test_what_is_given_back_is_not_kept(self):
        given = answers(list(PLANNED))
        given.clear()
        self.assertEqual(answers(list(PLANNED)), PLANNED_GIVEN)
