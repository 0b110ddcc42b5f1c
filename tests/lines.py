"""Writes calls as the program reads them, and reads what it answers."""

from lostthings.office import answers

HIGHEST = 4294967295


def begins(wrong):
    return [0, 1, wrong, 0]


def thing(first, second, third, fourth):
    return [1, 4, first, second, third, fourth, 0]


def claim(first, second, third, fourth):
    return [2, 4, first, second, third, fourth, 0]


def fits(number):
    return [3, 1, number, 0]


def check(*plan):
    return [4, len(plan), *plan, 0]


def best():
    return [5, 0, 0]


def has(number):
    return [6, 1, number, 0]


def why():
    return [7, 0, 0]


def office(wrong, things, claims):
    """The calls that begin an office with these things and claims."""
    return [begins(wrong)] + [thing(*features) for features in things] + [claim(*features) for features in claims]


def line(*calls):
    """One list of all these calls."""
    return [number for call in calls for number in call]


def split(given):
    """The answers one by one, without the counts ahead of them."""
    found = []
    place = 0
    while place < len(given):
        behind = place + 1 + given[place]
        if given[place] < 1 or behind > len(given):
            raise AssertionError(f"a count is wrong at {place} in {given}")
        found.append(given[place + 1:behind])
        place = behind
    return found


def ask(*calls):
    """What is answered to each of these calls, asked in one line."""
    return split(answers(line(*calls)))


def last(*calls):
    """What is answered to the last of these calls."""
    return ask(*calls)[-1]


def put(features, place, value):
    """The features with another value in one place."""
    return features[:place] + [value] + features[place + 1:]
