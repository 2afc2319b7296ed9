"""Calls as they stand in the list that is handed in, and what is answered to them."""

from refereeplans.day import answers

TOP = 4294967295


def call(number, *numbers):
    return [number, len(numbers), *numbers, 0]


def begins(referees, halls):
    return call(0, referees, halls)


def way(hall, other, minutes):
    return call(1, hall, other, minutes)


def game(hall=0, begin=0, end=1, one=0, other=1):
    return call(2, hall, begin, end, one, other)


def bar(referee, team):
    return call(3, referee, team)


def line(*calls):
    """Several calls as the one list."""
    return [number for one in calls for number in one]


def first_numbers(*calls):
    """The number answered to each call; every call of these four answers exactly one."""
    given = answers(line(*calls))
    if given[0::2] != [1] * len(calls):
        raise AssertionError(f"not one number for each of {len(calls)} calls: {given}")
    return given[1::2]


def last_number(*calls):
    return first_numbers(*calls)[-1]
