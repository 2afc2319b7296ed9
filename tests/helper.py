"""Calls as they stand in the list that is handed in, and what is answered to them."""

from refereeplans.day import answers

TOP = 4294967295


def call(number, *numbers):
    return [number, len(numbers), *numbers, 0]


def begins(referees, halls):
    return call(0, referees, halls)


def way(hall, other, minutes):
    return call(1, hall, other, minutes)


def game(hall=0, begin=0, end=1, one=0, other=1):
    return call(2, hall, begin, end, one, other)


def at(begin, hall=0, length=10, one=0, other=1):
    """A game of 10 minutes, if nothing else is told."""
    return game(hall, begin, begin + length, one, other)


def bar(referee, team):
    return call(3, referee, team)


def check(*plan):
    return call(4, *plan)


BEST = call(5)
FEWEST = call(6)
FAIR = call(7)


def line(*calls):
    """Several calls as the one list."""
    return [number for one in calls for number in one]


def first_numbers(*calls):
    """The number answered to each call, where every one answers exactly one."""
    given = answers(line(*calls))
    if given[0::2] != [1] * len(calls):
        raise AssertionError(f"not one number for each of {len(calls)} calls: {given}")
    return given[1::2]


def last_number(*calls):
    return first_numbers(*calls)[-1]


def each_answer(*calls):
    """The numbers answered to each call, a list for each."""
    given = answers(line(*calls))
    each = []
    while given:
        count = given.pop(0)
        if not 1 <= count <= len(given):
            raise AssertionError(f"{count} numbers are told ahead of {given}")
        each.append(given[:count])
        given = given[count:]
    if len(each) != len(calls):
        raise AssertionError(f"not an answer for each of {len(calls)} calls: {each}")
    return each


def last_answer(*calls):
    return each_answer(*calls)[-1]


def searched(*calls):
    """What best, fewest and fair answer behind these calls."""
    return each_answer(*calls, BEST, FEWEST, FAIR)[-3:]


def games_of(day):
    """The games that a Day keeps, each as it was told."""
    return [(each.hall, each.begin, each.end, each.one, each.other) for each in day.games]
