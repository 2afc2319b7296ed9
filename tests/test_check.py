"""What check answers: of plans that can be, and its refusals with their edges and their order."""

import unittest

from helper import TOP, at, bar, begins, check, each_answer, game, last_answer, way


class APlanThatCanBe(unittest.TestCase):
    def test_the_list_with_every_number_written_out(self):
        calls = [
            0, 2, 2, 2, 0,
            1, 3, 0, 1, 15, 0,
            2, 5, 0, 0, 10, 0, 1, 0,
            2, 5, 0, 0, 10, 2, 3, 0,
            2, 5, 1, 100, 110, 4, 5, 0,
            4, 3, 0, 1, 1, 0,
        ]
        numbers = [calls[:5], calls[5:11], calls[11:19], calls[19:27], calls[27:35], calls[35:]]
        self.assertEqual(each_answer(*numbers), [[0], [0], [0], [1], [2], [15, 2, 2]])

    def test_no_games_and_the_empty_plan(self):
        self.assertEqual(last_answer(check()), [0, 0, 0])
        self.assertEqual(last_answer(begins(4, 4), way(0, 1, 9), bar(0, 0), check()), [0, 0, 0])

    def test_one_game(self):
        for referee in range(4):
            with self.subTest(referee=referee):
                self.assertEqual(last_answer(begins(4, 2), way(0, 1, 9), at(0, hall=1), check(referee)), [0, 1, 1])

    def test_the_way_over_several_referees(self):
        day = [begins(3, 4), way(0, 1, 5), way(2, 3, 70), way(0, 3, 300)]
        day += [at(0, 0), at(0, 2), at(0, 0), at(500, 1), at(500, 3), at(500, 3)]
        self.assertEqual(last_answer(*day, check(0, 1, 2, 0, 1, 2)), [375, 3, 2])

    def test_nothing_before_the_first_and_behind_the_last_game(self):
        day = [begins(2, 2), way(0, 1, 50), at(0, 1), at(100, 1), at(200, 0)]
        self.assertEqual(last_answer(*day, check(0, 0, 1)), [0, 2, 2])
        self.assertEqual(last_answer(*day, check(0, 0, 0)), [50, 1, 3])

    def test_the_way_over_three_and_more_games_of_one_referee(self):
        day = [begins(1, 4), way(0, 1, 3), way(1, 2, 10), way(2, 3, 40), way(0, 2, 14), way(0, 3, 50), way(1, 3, 45)]
        self.assertEqual(last_answer(*day, at(0, 0), at(500, 1), at(900, 2), check(0, 0, 0)), [13, 1, 3])
        six = [at(0, 0), at(20, 1), at(40, 2), at(100, 3), at(150, 2), at(300, 0)]
        self.assertEqual(last_answer(*day, *six, check(0, 0, 0, 0, 0, 0)), [3 + 10 + 40 + 40 + 14, 1, 6])

    def test_the_order_in_which_the_games_were_told_does_not_count(self):
        day = [begins(1, 3), way(0, 1, 3), way(1, 2, 10), way(0, 2, 100)]
        first, second, third = at(0, 0), at(200, 1), at(500, 2)
        orders = [
            (first, second, third), (first, third, second), (second, first, third),
            (second, third, first), (third, first, second), (third, second, first),
        ]
        for order in orders:
            with self.subTest(order=order):
                self.assertEqual(last_answer(*day, *order, check(0, 0, 0)), [13, 1, 3])

    def test_there_and_back_alike(self):
        for told in (way(0, 1, 7), way(1, 0, 7)):
            with self.subTest(told=told):
                day = [begins(1, 2), told]
                self.assertEqual(last_answer(*day, at(0, 0), at(50, 1), check(0, 0)), [7, 1, 2])
                self.assertEqual(last_answer(*day, at(0, 1), at(50, 0), check(0, 0)), [7, 1, 2])
                self.assertEqual(last_answer(*day, at(0, 0), at(50, 1), at(90, 0), check(0, 0, 0)), [14, 1, 3])

    def test_a_way_told_anew(self):
        day = [begins(1, 2), way(0, 1, 7), at(0, 0), at(50, 1)]
        for again, minutes in ((way(0, 1, 9), 9), (way(1, 0, 4), 4), (way(1, 0, 0), 0)):
            with self.subTest(again=again):
                told = each_answer(*day, check(0, 0), again, check(0, 0))
                self.assertEqual(told[4:], [[7, 1, 2], [0], [minutes, 1, 2]])

    def test_a_way_of_0(self):
        games = [at(0, 0), at(10, 1)]
        self.assertEqual(last_answer(begins(1, 2), *games, check(0, 0)), [0, 1, 2])
        self.assertEqual(last_answer(begins(1, 2), way(0, 1, 0), *games, check(0, 0)), [0, 1, 2])

    def test_no_way_within_a_hall(self):
        day = [begins(1, 2), way(0, 1, 700)]
        self.assertEqual(last_answer(*day, at(0, 1), at(10, 1), at(20, 1), check(0, 0, 0)), [0, 1, 3])

    def test_the_way_that_is_told_also_where_another_hall_between_is_shorter(self):
        day = [begins(1, 3), way(0, 1, 1), way(1, 2, 1), way(0, 2, 100), at(0, 0), at(110, 2)]
        self.assertEqual(last_answer(*day, check(0, 0)), [100, 1, 2])
        self.assertEqual(last_answer(*day, at(50, 1), check(0, 0, 0)), [2, 1, 3])

    def test_how_many_referees_and_the_most_games(self):
        day = [begins(4, 1)] + [at(begin) for begin in (0, 10, 20, 30, 40, 50)]
        cases = (
            ((0, 0, 0, 0, 0, 0), 1, 6), ((3, 3, 3, 3, 3, 3), 1, 6), ((0, 0, 0, 3, 3, 3), 2, 3),
            ((2, 1, 1, 1, 1, 2), 2, 4), ((3, 2, 3, 2, 3, 1), 3, 3), ((0, 1, 2, 3, 0, 1), 4, 2),
            ((3, 3, 3, 2, 1, 0), 4, 3), ((1, 3, 3, 1, 3, 3), 2, 4),
        )
        for plan, referees, most in cases:
            with self.subTest(plan=plan):
                self.assertEqual(last_answer(*day, check(*plan)), [0, referees, most])

    def test_a_bar_from_a_game_of_another_referee_is_nothing(self):
        day = [begins(3, 1), at(0, one=4, other=5), at(20, one=6, other=7), bar(0, 6), bar(1, 4), bar(2, 4), bar(2, 7)]
        self.assertEqual(last_answer(*day, check(0, 1)), [0, 2, 1])

    def test_games_at_once_of_different_referees(self):
        self.assertEqual(last_answer(begins(4, 1), *[at(5)] * 4, check(3, 1, 0, 2)), [0, 4, 1])


class NotARefereeForEachGame(unittest.TestCase):
    def test_too_few_and_too_many(self):
        for games in range(7):
            day = [begins(2, 1)] + [at(20 * number) for number in range(games)]
            for count in range(9):
                with self.subTest(games=games, count=count):
                    told = last_answer(*day, check(*[0] * count))
                    self.assertEqual(told, [0, min(games, 1), games] if count == games else [-1])

    def test_the_empty_plan_where_there_are_games(self):
        self.assertEqual(last_answer(at(0), check()), [-1])

    def test_a_plan_where_there_are_no_games(self):
        self.assertEqual(last_answer(check(0)), [-1])
        self.assertEqual(last_answer(check(TOP)), [-1])

    def test_a_number_that_is_no_referee(self):
        for referees in range(1, 5):
            day = [begins(referees, 1), at(0), at(20), at(40)]
            for number in (referees, referees + 1, 20, TOP):
                for plan in ((number, 0, 0), (0, number, 0), (0, 0, number), (number, number, number)):
                    with self.subTest(referees=referees, plan=plan):
                        self.assertEqual(last_answer(*day, check(*plan)), [-1])
            self.assertEqual(last_answer(*day, check(0, 0, referees - 1))[0], 0)

    def test_eight_numbers(self):
        self.assertEqual(last_answer(begins(4, 1), *[at(20 * k) for k in range(6)], check(*[TOP] * 8)), [-1])
        self.assertEqual(last_answer(begins(4, 1), *[at(20 * k) for k in range(6)], check(*[0] * 8)), [-1])

    def test_ahead_of_a_barred_game(self):
        day = [begins(2, 1), bar(0, 3), at(0, one=3), at(20)]
        self.assertEqual(last_answer(*day, check(0, 1)), [-6, 0])
        for plan in ((0,), (0, 1, 1), (0, 2), (0, TOP)):
            with self.subTest(plan=plan):
                self.assertEqual(last_answer(*day, check(*plan)), [-1])

    def test_ahead_of_two_games_that_clash(self):
        day = [begins(2, 1), at(0), at(0), at(20)]
        self.assertEqual(last_answer(*day, check(0, 0, 0)), [-7, 0, 1])
        for plan in ((0, 0), (0, 0, 0, 0), (0, 0, 2), (0, 0, TOP)):
            with self.subTest(plan=plan):
                self.assertEqual(last_answer(*day, check(*plan)), [-1])

    def test_ahead_of_both(self):
        day = [begins(2, 1), bar(0, 3), at(0, one=3), at(0, one=3)]
        self.assertEqual(each_answer(*day, check(0, 0), check(0, 0, 0), check(0, 2))[4:], [[-6, 0], [-1], [-1]])


class Barred(unittest.TestCase):
    def test_either_of_the_teams(self):
        day = [begins(2, 1), at(0, one=4, other=5)]
        for team, told in ((4, [-6, 0]), (5, [-6, 0]), (0, [0, 1, 1]), (6, [0, 1, 1])):
            with self.subTest(team=team):
                self.assertEqual(last_answer(*day, bar(1, team), check(1)), told)
                self.assertEqual(last_answer(*day, bar(1, team), check(0)), [0, 1, 1])

    def test_the_last_team_and_the_first(self):
        for one, other in ((0, 19), (19, 0)):
            for team in (0, 19):
                with self.subTest(one=one, other=other, team=team):
                    self.assertEqual(last_answer(at(0, one=one, other=other), bar(0, team), check(0)), [-6, 0])

    def test_each_game_may_be_the_one(self):
        for number in range(6):
            with self.subTest(number=number):
                games = [at(20 * k, one=9 if k == number else 8) for k in range(6)]
                self.assertEqual(last_answer(begins(1, 1), *games, bar(0, 9), check(*[0] * 6)), [-6, number])

    def test_the_first_of_several_by_number_not_by_when_it_begins(self):
        day = [begins(2, 1), at(80), at(60, one=7, other=8), at(40, one=8, other=7), at(0, one=7, other=8)]
        told = each_answer(*day, bar(1, 7), bar(0, 8), check(0, 0, 0, 0), check(0, 1, 1, 1), check(1, 1, 0, 1))
        self.assertEqual(told[7:], [[-6, 1], [-6, 1], [-6, 1]])

    def test_of_several_the_first_whose_own_referee_is_barred(self):
        day = [begins(2, 1), at(0, one=5, other=6), at(20, one=5, other=7), at(40, one=5, other=8), bar(1, 5)]
        for plan, told in (((0, 1, 1), [-6, 1]), ((0, 0, 1), [-6, 2]), ((1, 0, 0), [-6, 0]), ((0, 0, 0), [0, 1, 3])):
            with self.subTest(plan=plan):
                self.assertEqual(last_answer(*day, check(*plan)), told)

    def test_ahead_of_two_games_that_clash(self):
        day = [begins(1, 1), at(0), at(0), at(50, one=4), bar(0, 4)]
        self.assertEqual(last_answer(*day, check(0, 0, 0)), [-6, 2])
        self.assertEqual(last_answer(begins(1, 1), at(0, one=4), at(0), bar(0, 4), check(0, 0)), [-6, 0])

    def test_a_bar_told_ahead_of_the_game_and_behind_it(self):
        told = each_answer(bar(0, 4), at(0, one=4), check(0), at(20, one=3, other=2), bar(0, 3), check(0, 0))
        self.assertEqual(told, [[1], [0], [-6, 0], [1], [2], [-6, 0]])
        self.assertEqual(each_answer(at(0), check(0), bar(0, 1), check(0)), [[0], [0, 1, 1], [1], [-6, 0]])


class Clash(unittest.TestCase):
    def test_just_when_the_other_ends_and_one_minute_earlier(self):
        for begin, told in ((11, [0, 1, 2]), (10, [0, 1, 2]), (9, [-7, 0, 1]), (1, [-7, 0, 1]), (0, [-7, 0, 1])):
            with self.subTest(begin=begin):
                self.assertEqual(last_answer(at(0), at(begin), check(0, 0)), told)
                self.assertEqual(last_answer(at(begin), at(0), check(0, 0)), told)

    def test_just_when_the_way_has_gone_by_and_one_minute_earlier(self):
        for begin, told in ((26, [15, 1, 2]), (25, [15, 1, 2]), (24, [-7, 0, 1]), (10, [-7, 0, 1]), (9, [-7, 0, 1])):
            for hall, other in ((0, 1), (1, 0)):
                with self.subTest(begin=begin, hall=hall):
                    day = [begins(1, 2), way(0, 1, 15)]
                    self.assertEqual(last_answer(*day, at(0, hall), at(begin, other), check(0, 0)), told)
                    self.assertEqual(last_answer(*day, at(begin, other), at(0, hall), check(0, 0)), told)

    def test_another_hall_between_helps_nothing(self):
        day = [begins(1, 3), way(0, 1, 1), way(1, 2, 1), way(0, 2, 100), at(0, 0), at(109, 2)]
        self.assertEqual(last_answer(*day, check(0, 0)), [-7, 0, 1])
        # A game in the hall between is reached in time each time, the outer two still clash.
        self.assertEqual(last_answer(*day, at(50, 1), check(0, 0, 0)), [-7, 0, 1])

    def test_games_that_begin_at_once(self):
        for length in (1, 10, 500):
            with self.subTest(length=length):
                self.assertEqual(last_answer(at(5), at(5, length=length), check(0, 0)), [-7, 0, 1])
        self.assertEqual(last_answer(begins(1, 2), at(5, 0), at(5, 1), check(0, 0)), [-7, 0, 1])

    def test_one_game_within_another(self):
        self.assertEqual(last_answer(at(0, length=100), at(40), check(0, 0)), [-7, 0, 1])
        self.assertEqual(last_answer(at(40), at(0, length=100), check(0, 0)), [-7, 0, 1])

    def test_games_that_are_not_next_to_one_another_by_beginning(self):
        day = [begins(1, 2), way(0, 1, 0), at(0, length=100), at(100), at(50, length=40)]
        self.assertEqual(last_answer(*day, check(0, 0, 0)), [-7, 0, 2])

    def test_the_longest_way_and_the_last_minute(self):
        day = [begins(1, 2), way(0, 1, 998), game(0, 0, 1), game(1, 999, 1000)]
        told = each_answer(*day, check(0, 0), way(0, 1, 999), check(0, 0))
        self.assertEqual(told[4:], [[998, 1, 2], [0], [-7, 0, 1]])
        self.assertEqual(last_answer(*day, way(0, 1, 1000), check(0, 0)), [-7, 0, 1])

    def test_of_several_pairs_the_lower_number_counts_first(self):
        cases = (
            # 1 and 2 clash, and 0 and 5: the lowest lower number is 0.
            ((0, 100, 105, 300, 400, 5), [-7, 0, 5]),
            # 0 clashes with 4 and 2: of these the lower is told.
            ((50, 0, 45, 200, 55, 300), [-7, 0, 2]),
            # 2 clashes with 5, 3 with 4.
            ((0, 20, 40, 60, 65, 45), [-7, 2, 5]),
            ((0, 20, 40, 60, 80, 85), [-7, 4, 5]),
            ((0, 0, 0, 0, 0, 0), [-7, 0, 1]),
        )
        for begins_at, told in cases:
            with self.subTest(begins_at=begins_at):
                games = [at(begin) for begin in begins_at]
                self.assertEqual(last_answer(*games, check(*[0] * 6)), told)

    def test_of_several_referees_the_pair_of_the_lower_number(self):
        day = [begins(2, 1), at(0), at(0), at(0), at(0)]
        cases = (((1, 0, 0, 1), [0, 3]), ((1, 0, 1, 0), [0, 2]), ((1, 1, 0, 0), [0, 1]), ((0, 1, 1, 1), [1, 2]))
        for plan, told in cases:
            with self.subTest(plan=plan):
                self.assertEqual(last_answer(*day, check(*plan)), [-7, *told])

    def test_none_where_each_has_another_referee(self):
        self.assertEqual(last_answer(begins(2, 1), at(0), at(5), check(1, 0)), [0, 2, 1])


if __name__ == "__main__":
    unittest.main()
