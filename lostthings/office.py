"""One office: its things, its claims, and the calls that are made about them."""

MOST_WRONG = 4
MOST_KEPT = 5
HIGHEST_VALUE = 9
LEFT_OUT = 10


class Office:
    """What the calls so far have told: how many features may be wrong, the things, the claims."""

    def __init__(self):
        self.wrong = 0
        self.things = []
        self.claims = []


def begins(office, told):
    """Empty the office and set how many features a claim may tell wrong."""
    if told[0] > MOST_WRONG:
        return [-1]
    office.wrong = told[0]
    office.things = []
    office.claims = []
    return [0]


def number_behind(kept, features, highest):
    """Tell the number that the features get behind those kept, or why they are refused."""
    if max(features) > highest:
        return -1
    if len(kept) == MOST_KEPT:
        return -5
    return len(kept)


def takes_thing(office, told):
    """Keep a thing and answer its number."""
    number = number_behind(office.things, told, HIGHEST_VALUE)
    if number >= 0:
        office.things.append(told)
    return [number]


def takes_claim(office, told):
    """Keep a claim and answer its number."""
    number = number_behind(office.claims, told, LEFT_OUT)
    if number >= 0:
        office.claims.append(told)
    return [number]


def errors_about(claim, thing):
    """Count the features that the claim tells otherwise than the thing has them."""
    errors = 0
    for said, had in zip(claim, thing):
        if said != LEFT_OUT and said != had:
            errors += 1
    return errors


def fitting(office, claim):
    """List the things that fit the claim, in their order, each with the claim's errors about it."""
    found = []
    for number, thing in enumerate(office.things):
        errors = errors_about(claim, thing)
        if errors <= office.wrong:
            found.append((number, errors))
    return found


def fits(office, told):
    """Answer how many things fit a claim, then each of them and its errors."""
    if told[0] >= len(office.claims):
        return [-2]
    found = fitting(office, office.claims[told[0]])
    answer = [len(found)]
    for number, errors in found:
        answer.append(number)
        answer.append(errors)
    return answer


CALLS = {0: begins, 1: takes_thing, 2: takes_claim, 3: fits}


def answers(calls):
    """Answer the calls of one line, in order, each with the count of its numbers ahead of them."""
    office = Office()
    given = []
    place = 0
    while place < len(calls):
        first = place + 2
        behind = first + calls[place + 1]
        answer = CALLS[calls[place]](office, calls[first:behind])
        given.append(len(answer))
        given.extend(answer)
        # No call has lists: what stands behind its numbers is always a count of 0.
        place = behind + 1
    return given
