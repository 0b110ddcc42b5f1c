"""One office: its things, its claims, and the calls that are made about them."""

MOST_WRONG = 4
MOST_KEPT = 5
HIGHEST_VALUE = 9
LEFT_OUT = 10


class Office:
    """What the calls so far have told: how many features may be wrong, the things, the claims."""

    def __init__(self):
        self.wrong = 0
        self.things = []
        self.claims = []


def begins(office, told):
    """Empty the office and set how many features a claim may tell wrong."""
    if told[0] > MOST_WRONG:
        return [-1]
    office.wrong = told[0]
    office.things = []
    office.claims = []
    return [0]


def number_behind(kept, features, highest):
    """Tell the number that the features get behind those kept, or why they are refused."""
    if max(features) > highest:
        return -1
    if len(kept) == MOST_KEPT:
        return -5
    return len(kept)


def takes_thing(office, told):
    """Keep a thing and answer its number."""
    number = number_behind(office.things, told, HIGHEST_VALUE)
    if number >= 0:
        office.things.append(told)
    return [number]


def takes_claim(office, told):
    """Keep a claim and answer its number."""
    number = number_behind(office.claims, told, LEFT_OUT)
    if number >= 0:
        office.claims.append(told)
    return [number]


def errors_about(claim, thing):
    """Count the features that the claim tells otherwise than the thing has them."""
    errors = 0
    for said, had in zip(claim, thing):
        if said != LEFT_OUT and said != had:
            errors += 1
    return errors


def may_be(office, claim, thing):
    """Tell whether the thing fits the claim."""
    return errors_about(claim, thing) <= office.wrong


def fitting(office, claim):
    """List the numbers of the things that fit the claim, rising."""
    return [number for number, thing in enumerate(office.things) if may_be(office, claim, thing)]


def fits(office, told):
    """Answer how many things fit a claim, then each of them and its errors."""
    if told[0] >= len(office.claims):
        return [-2]
    claim = office.claims[told[0]]
    found = fitting(office, claim)
    answer = [len(found)]
    for number in found:
        answer.append(number)
        answer.append(errors_about(claim, office.things[number]))
    return answer


def given_out(office, plan):
    """Count the claims that have a thing in the plan."""
    return len(plan) - plan.count(len(office.things))


def errors_of(office, plan):
    """Add up the errors of the claims about the things that they have in the plan."""
    errors = 0
    for claim, number in zip(office.claims, plan):
        if number != len(office.things):
            errors += errors_about(claim, office.things[number])
    return errors


def first_unfit(office, plan):
    """Tell the first claim whose thing doesn't fit it, or None."""
    for place, number in enumerate(plan):
        if number != len(office.things) and not may_be(office, office.claims[place], office.things[number]):
            return place
    return None


def first_twice(office, plan):
    """Tell the first claim whose thing was told of a claim before it, or None."""
    for place, number in enumerate(plan):
        if number != len(office.things) and number in plan[:place]:
            return place
    return None


def check(office, told):
    """Answer how many things a plan gives out and its errors, or why it can't be."""
    if len(told) != len(office.claims) or max(told, default=0) > len(office.things):
        return [-1]
    unfit = first_unfit(office, told)
    if unfit is not None:
        return [-6, unfit]
    twice = first_twice(office, told)
    if twice is not None:
        return [-7, twice]
    return [given_out(office, told), errors_of(office, told)]


def possible_plans(office):
    """List the plans that can be, each behind those that are earlier."""
    none = len(office.things)
    plans = [[]]
    for claim in office.claims:
        # Rising numbers, none the last, keep the earlier plans ahead.
        numbers = fitting(office, claim) + [none]
        longer = []
        for plan in plans:
            free = [number for number in numbers if number == none or number not in plan]
            longer.extend([plan + [number] for number in free])
        plans = longer
    return plans


def full_plans(office):
    """List the full plans, each behind those that are earlier."""
    plans = possible_plans(office)
    most = max([given_out(office, plan) for plan in plans])
    return [plan for plan in plans if given_out(office, plan) == most]


def best(office, told):
    """Answer what the best plans give out, their errors, how many they are, and the earliest of them."""
    full = full_plans(office)
    errors = [errors_of(office, plan) for plan in full]
    fewest = min(errors)
    earliest = full[errors.index(fewest)]
    return [given_out(office, earliest), fewest, errors.count(fewest)] + earliest


def has(office, told):
    """Answer how many different things a claim has in the full plans, then these."""
    if told[0] >= len(office.claims):
        return [-2]
    numbers = sorted(set([plan[told[0]] for plan in full_plans(office)]))
    return [len(numbers)] + numbers


def claims_in(office, group):
    """List the claims of a set that is told as a number."""
    return [claim for number, claim in enumerate(office.claims) if (group >> number) % 2 == 1]


def fitting_one_of(office, claims):
    """List the numbers of the things that fit at least one of the claims, rising."""
    found = []
    for number, thing in enumerate(office.things):
        if any([may_be(office, claim, thing) for claim in claims]):
            found.append(number)
    return found


def why(office, told):
    """Answer by how many the shortest set of claims is short, that set, and the things that fit one of it."""
    short = 0
    shortest = 0
    few = []
    for group in range(1 << len(office.claims)):
        claims = claims_in(office, group)
        found = fitting_one_of(office, claims)
        # Only a set that is shorter takes the place, so that of several the lowest number stays.
        if len(claims) - len(found) > short:
            short = len(claims) - len(found)
            shortest = group
            few = found
    return [short, shortest] + few


CALLS = {0: begins, 1: takes_thing, 2: takes_claim, 3: fits, 4: check, 5: best, 6: has, 7: why}


def answers(calls):
    """Answer the calls of one line, in order, each with the count of its numbers ahead of them."""
    office = Office()
    given = []
    place = 0
    while place < len(calls):
        first = place + 2
        behind = first + calls[place + 1]
        answer = CALLS[calls[place]](office, calls[first:behind])
        given.append(len(answer))
        given.extend(answer)
        # No call has lists: what stands behind its numbers is always a count of 0.
        place = behind + 1
    return given
