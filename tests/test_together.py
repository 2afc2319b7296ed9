"""The eight calls beside one another: who sees what, and that check, best, fewest and fair change nothing."""

import unittest

from helper import (
    BEST, FAIR, FEWEST, TOP, answers, at, bar, begins, check, each_answer, game, last_answer, line, searched, way,
)

NO_GAMES = [[0, 1], [0, 0, 1], [0, 0, 1]]
# Two referees and two halls; of the third game's teams referee 0 is barred from one.
DAY = [begins(2, 2), way(0, 1, 20), at(0, 0), at(100, 1), at(200, 0, one=4, other=5), bar(0, 5)]
DAY_SEARCHED = [[0, 1, 1, 0, 1], [1, 40, 1, 1, 1, 1], [2, 0, 1, 1, 0, 1]]


class NothingIsChanged(unittest.TestCase):
    ASKED = (
        check(), check(1, 0, 1), check(1, 1, 1), check(0, 1, 0), check(0), check(0, 0, TOP), check(*[1] * 8),
        BEST, FEWEST, FAIR,
    )

    def test_what_is_answered_behind_them_is_as_if_they_had_not_been_asked(self):
        behind = [
            at(0, 1), way(1, 0, 30), bar(0, 5), bar(1, 5), bar(2, 5), game(hall=2), at(300), at(400), game(), game(),
            check(1, 0, 1), check(1, 0, 0, 1, 0, 0), begins(5, 1), begins(1, 1), game(), bar(0, 5), way(0, 1, 1),
        ]
        plain = each_answer(*DAY, *behind)
        for asked in self.ASKED:
            with self.subTest(asked=asked):
                self.assertEqual(each_answer(*DAY, asked, *behind)[7:], plain[6:])
                self.assertEqual(each_answer(*DAY, asked, asked, *behind)[8:], plain[6:])

    def test_between_all_other_calls(self):
        plain = each_answer(*DAY, at(300), at(400))
        for asked in self.ASKED[:-3]:
            with self.subTest(asked=asked):
                mixed = [one for each in [*DAY, at(300), at(400)] for one in (asked, each)]
                self.assertEqual(each_answer(*mixed)[1::2], plain)

    def test_they_answer_alike_again_and_behind_one_another(self):
        for asked in self.ASKED:
            with self.subTest(asked=asked):
                self.assertEqual(each_answer(*DAY, asked, *[check(1, 0, 1)] * 2, asked)[6:],
                                 [last_answer(*DAY, asked), [0, 2, 2], [0, 2, 2], last_answer(*DAY, asked)])
                self.assertEqual(searched(*DAY, *[asked] * (1 if asked in (BEST, FEWEST, FAIR) else 2)), DAY_SEARCHED)

    def test_the_plan_given_back_by_one_is_not_touched_by_the_next(self):
        self.assertEqual(each_answer(*DAY, BEST, BEST, FAIR, FAIR)[6:], [DAY_SEARCHED[0]] * 2 + [DAY_SEARCHED[2]] * 2)


class WhatIsSeen(unittest.TestCase):
    def test_begins(self):
        self.assertEqual(searched(*DAY), DAY_SEARCHED)
        self.assertEqual(searched(*DAY, begins(2, 2)), NO_GAMES)
        self.assertEqual(each_answer(*DAY, begins(2, 2), check(1, 0, 1), check())[7:], [[-1], [0, 0, 0]])

    def test_begins_takes_the_ways_away(self):
        games = [at(0, 0), at(10, 1)]
        for told in ([begins(1, 2)], [begins(1, 2), begins(1, 1), begins(1, 2)], [begins(4, 4), begins(1, 2)]):
            with self.subTest(told=told):
                self.assertEqual(last_answer(begins(1, 2), way(0, 1, 5), *told, *games, check(0, 0)), [0, 1, 2])
                self.assertEqual(searched(begins(1, 2), way(0, 1, 5), *told, *games)[0], [0, 1, 0, 0])

    def test_begins_takes_the_bars_away(self):
        told = [bar(0, 0), begins(1, 1), at(0)]
        self.assertEqual(last_answer(*told, check(0)), [0, 1, 1])
        self.assertEqual(searched(*told)[0], [0, 1, 0])

    def test_begins_with_another_number_of_referees(self):
        for referees in range(1, 5):
            with self.subTest(referees=referees):
                told = [begins(3, 1), begins(referees, 1), at(0)]
                self.assertEqual(last_answer(*told, check(referees - 1)), [0, 1, 1])
                self.assertEqual(last_answer(*told, check(referees)), [-1])
                self.assertEqual(searched(*told)[0], [0, referees, 0])

    def test_a_new_day_has_one_referee(self):
        self.assertEqual(each_answer(at(0), check(0), check(1), BEST), [[0], [0, 1, 1], [-1], [0, 1, 0]])

    def test_way(self):
        told = each_answer(*DAY, FEWEST, way(1, 0, 5), FEWEST, way(0, 1, 95), FEWEST)
        self.assertEqual(told[6:], [[1, 40, 1, 1, 1, 1], [0], [1, 10, 1, 1, 1, 1], [0], [2, 0, 1, 1, 0, 1]])

    def test_game(self):
        told = each_answer(*DAY, BEST, at(0, 1), BEST, at(5), BEST)
        self.assertEqual(told[6:], [[0, 1, 1, 0, 1], [3], [0, 1, 1, 0, 1, 0], [4], [-6]])

    def test_bar(self):
        told = each_answer(*DAY, FAIR, bar(1, 5), FAIR, check(1, 0, 1), check(1, 0, 0))
        self.assertEqual(told[6:], [[2, 0, 1, 1, 0, 1], [2], [-6], [-6, 2], [-6, 2]])
        # Referee 1 is barred from the first two games, referee 0 from the third.
        self.assertEqual(searched(*DAY, bar(1, 0)), [[20, 1, 0, 0, 1], [2, 20, 1, 0, 0, 1], [2, 20, 1, 0, 0, 1]])


class ARefusalIsNotSeen(unittest.TestCase):
    def test_all_is_as_it_was(self):
        cases = (
            (begins(0, 1), -1), (begins(5, 2), -1), (begins(2, 5), -1), (begins(TOP, TOP), -1),
            (way(0, 2, 3), -2), (way(2, 0, 3), -2), (way(0, 1, 1001), -1), (way(1, 0, TOP), -1), (way(0, 0, 3), -4),
            (way(1, 1, 3), -4),
            (game(2, 0, 10), -2), (game(0, 10, 10), -1), (game(0, 0, 1001), -1), (game(0, 0, 10, 20, 1), -1),
            (game(0, 0, 10, 1, 20), -1), (game(0, 0, 10, 3, 3), -1),
            (bar(2, 0), -2), (bar(1, 20), -1), (bar(0, 5), -4),
        )
        for refused, told in cases:
            with self.subTest(refused=refused):
                self.assertEqual(last_answer(*DAY, refused), [told])
                self.assertEqual(searched(*DAY, refused), DAY_SEARCHED)
                checks = [check(1, 0, 1), check(1, 1, 1), check(0, 0, 0), check(1, 0, 2)]
                self.assertEqual(each_answer(*DAY, refused, *checks)[7:], [[0, 2, 2], [40, 1, 3], [-6, 2], [-1]])

    def test_a_seventh_game(self):
        day = [at(20 * number) for number in range(6)]
        self.assertEqual(each_answer(*day, at(0), check(*[0] * 6), check(*[0] * 7), BEST)[6:],
                         [[-5], [0, 1, 6], [-1], [0, 1, 0, 0, 0, 0, 0, 0]])


class SixtyCalls(unittest.TestCase):
    CALLS = [
        begins(4, 4), way(0, 1, 10), way(2, 0, 20), way(0, 3, 30), way(1, 2, 40), way(3, 1, 50), way(2, 3, 60),
        *[at(100 * number, hall) for number, hall in enumerate((0, 1, 2, 3, 0, 0))],
        BEST, FEWEST, FAIR,
        *[check(0, 1, 2, 3, 0, 0), check(0, 0, 0, 0, 0, 0), check(*[0] * 8), check(), check(4, 0, 0, 0, 0, 0)] * 8,
        bar(0, 0), check(0, 1, 2, 3, 0, 0), bar(1, 1), FAIR,
    ]
    TOLD = [
        [0], [0], [0], [0], [0], [0], [0],
        [0], [1], [2], [3], [4], [5],
        [0, 24, 0, 1, 2, 3, 0, 0], [1, 140, 4, 0, 0, 0, 0, 0, 0], [2, 10, 72, 0, 0, 1, 2, 3, 3],
        *[[0, 4, 3], [140, 1, 6], [-1], [-1], [-1]] * 8,
        # Referees 2 and 3 are left, with three games each: games 0, 1 and 2 take 50 and the rest 30, or games 0, 1 and
        # 3 take 60 and the rest 20; every other way of sharing out takes more.
        [1], [-6, 0], [2], [3, 80, 4, 2, 2, 2, 3, 3, 3],
    ]

    def test_sixty_calls_four_of_them_searches(self):
        self.assertEqual(len(self.CALLS), 60)
        self.assertEqual(len([one for one in self.CALLS if one in (BEST, FEWEST, FAIR)]), 4)
        self.assertLessEqual(len(line(*self.CALLS)), 1000)
        self.assertEqual(each_answer(*self.CALLS), self.TOLD)

    def test_the_list_stays_and_a_second_time_answers_as_the_first(self):
        calls = line(*self.CALLS)
        before = list(calls)
        first = answers(calls)
        self.assertEqual(calls, before)
        self.assertEqual(answers(calls), first)
        self.assertEqual(calls, before)


if __name__ == "__main__":
    unittest.main()
