"""What best, fewest and fair answer, on days whose plans are counted by hand."""

import unittest

from helper import BEST, FAIR, FEWEST, at, bar, begins, each_answer, searched, way


class WhereTheyDiffer(unittest.TestCase):
    # Hall 0, then hall 1, then hall 0 twice.
    GAMES = [at(0, 0), at(100, 1), at(200, 0), at(300, 0)]

    def test_two_referees(self):
        best, fewest, fair = searched(begins(2, 2), way(0, 1, 20), *self.GAMES)
        # One has hall 1 alone.
        self.assertEqual(best, [0, 2, 0, 1, 0, 0])
        # One has all, there and back.
        self.assertEqual(fewest, [1, 40, 2, 0, 0, 0, 0])
        # Two each: whoever has hall 1 has another game, ahead of it or behind it.
        self.assertEqual(fair, [2, 20, 6, 0, 0, 1, 1])

    def test_three_referees(self):
        best, fewest, fair = searched(begins(3, 2), way(0, 1, 20), *self.GAMES)
        # One of three has hall 1, the other two share out three games as they like.
        self.assertEqual(best, [0, 3 * 8, 0, 1, 0, 0])
        self.assertEqual(fewest, [1, 40, 3, 0, 0, 0, 0])
        # Of these eight ways of sharing out, the two where one has all three are out.
        self.assertEqual(fair, [2, 0, 3 * 6, 0, 1, 0, 2])

    def test_each_answer_alone_as_the_list_has_it(self):
        day = [begins(2, 2), way(0, 1, 20), *self.GAMES]
        told = [[0], [0], [0], [1], [2], [3]]
        self.assertEqual(each_answer(*day, BEST), told + [[0, 2, 0, 1, 0, 0]])
        self.assertEqual(each_answer(*day, FEWEST), told + [[1, 40, 2, 0, 0, 0, 0]])
        self.assertEqual(each_answer(*day, FAIR), told + [[2, 20, 6, 0, 0, 1, 1]])


class Better(unittest.TestCase):
    def test_of_fewest_less_way_counts_behind_the_referees(self):
        # Two games at once take two referees, who stay each in a hall.
        day = [begins(3, 2), way(0, 1, 5), at(0, 0), at(0, 1), at(100, 0), at(200, 1)]
        best, fewest, fair = searched(*day)
        self.assertEqual(fewest, [2, 0, 6, 0, 1, 0, 1])
        # The third may have one of the two last games, but not both.
        self.assertEqual(best, [0, 18, 0, 1, 0, 1])
        self.assertEqual(fair, [2, 0, 18, 0, 1, 0, 1])

    def test_of_fair_less_way_counts_behind_the_most_games(self):
        day = [begins(2, 3), way(0, 1, 7), way(0, 2, 9), way(1, 2, 30), at(0, 0), at(100, 1), at(200, 2)]
        best, fewest, fair = searched(*day)
        # 0 and 1 together, or 0 and 2 together, or 1 and 2 together, or all three.
        self.assertEqual(best, [7, 2, 0, 0, 1])
        self.assertEqual(fewest, [1, 37, 2, 0, 0, 0])
        self.assertEqual(fair, [2, 7, 2, 0, 0, 1])

    def test_the_best_plan_need_not_be_the_earliest(self):
        day = [begins(2, 2), way(0, 1, 8), at(0, 0), at(100, 1), at(200, 1), at(300, 0), bar(0, 5), at(400, 0, one=5)]
        best, fewest, fair = searched(*day)
        self.assertEqual(best, [0, 1, 1, 0, 0, 1, 1])
        self.assertEqual(fewest, [1, 16, 1, 1, 1, 1, 1, 1])
        # Three and two: hall 1's two games by one, hall 0's three by the other.
        self.assertEqual(fair, [3, 0, 1, 1, 0, 0, 1, 1])

    def test_the_earlier_has_the_lower_number_at_the_first_game_that_differs(self):
        # Referee 0 can't have both: 0, 1 is ahead of 1, 0.
        self.assertEqual(searched(begins(2, 1), at(0), at(0)), [[0, 2, 0, 1], [2, 0, 2, 0, 1], [1, 0, 2, 0, 1]])
        # Game 0 counts first, although game 1 is played ahead of it.
        day = [begins(3, 1), at(50, one=4), at(0, length=60, one=5), bar(0, 4)]
        self.assertEqual(searched(*day), [[0, 4, 1, 0], [2, 0, 4, 1, 0], [1, 0, 4, 1, 0]])

    def test_a_way_longer_than_the_time_makes_two_games_clash(self):
        for minutes, told in ((90, [90, 2, 0, 0]), (91, [0, 2, 0, 1])):
            with self.subTest(minutes=minutes):
                day = [begins(2, 2), way(0, 1, minutes), at(0, 0), at(100, 1)]
                self.assertEqual(searched(*day)[1], [2 if minutes > 90 else 1] + told)
                self.assertEqual(searched(*day)[0], [0, 2, 0, 1])

    def test_another_hall_between_helps_nothing(self):
        day = [begins(1, 3), way(0, 1, 1), way(1, 2, 1), way(0, 2, 100), at(0, 0)]
        self.assertEqual(searched(*day, at(110, 2)), [[100, 1, 0, 0], [1, 100, 1, 0, 0], [2, 100, 1, 0, 0]])
        self.assertEqual(searched(*day, at(109, 2)), [[-6], [-6], [-6]])

    def test_a_barred_referee_is_left_out(self):
        for team in (7, 8):
            with self.subTest(team=team):
                day = [begins(3, 1), at(0, one=7, other=8), bar(0, team), bar(2, team)]
                self.assertEqual(searched(*day), [[0, 1, 1], [1, 0, 1, 1], [1, 0, 1, 1]])


class NoPlan(unittest.TestCase):
    def test_two_games_at_once_and_one_referee(self):
        self.assertEqual(searched(at(0), at(9)), [[-6], [-6], [-6]])
        self.assertEqual(searched(at(0), at(10)), [[0, 1, 0, 0], [1, 0, 1, 0, 0], [2, 0, 1, 0, 0]])

    def test_more_games_at_once_than_referees(self):
        for referees in range(1, 5):
            with self.subTest(referees=referees):
                games = [at(number) for number in range(referees)]
                count = (1, 2, 6, 24)[referees - 1]
                plan = list(range(referees))
                told = [[0, count, *plan], [referees, 0, count, *plan], [1, 0, count, *plan]]
                self.assertEqual(searched(begins(referees, 1), *games), told)
                self.assertEqual(searched(begins(referees, 1), *games, at(referees)), [[-6], [-6], [-6]])

    def test_everybody_is_barred(self):
        day = [begins(2, 1), at(0, one=2, other=3), at(20, one=4, other=5), bar(0, 4)]
        self.assertEqual(searched(*day, bar(1, 5)), [[-6], [-6], [-6]])
        self.assertEqual(searched(*day, bar(1, 3)), [[0, 1, 0, 1], [2, 0, 1, 0, 1], [1, 0, 1, 0, 1]])

    def test_bars_and_times_together(self):
        # Each game has a referee for it, but it's the same one.
        day = [begins(2, 1), at(0, one=2, other=3), at(5, one=2, other=4), bar(0, 2)]
        self.assertEqual(searched(*day), [[-6], [-6], [-6]])


class HowManyGames(unittest.TestCase):
    def test_no_games(self):
        for day in ([], [begins(4, 4), way(0, 1, 5), bar(0, 3)], [at(0), begins(2, 2)]):
            with self.subTest(day=day):
                self.assertEqual(searched(*day), [[0, 1], [0, 0, 1], [0, 0, 1]])

    def test_one_game(self):
        for referees in range(1, 5):
            with self.subTest(referees=referees):
                told = [[0, referees, 0], [1, 0, referees, 0], [1, 0, referees, 0]]
                self.assertEqual(searched(begins(referees, 1), at(0)), told)

    def test_six_games_and_four_referees(self):
        day = [begins(4, 1)] + [at(10 * number) for number in range(6)]
        best, fewest, fair = searched(*day)
        self.assertEqual(best, [0, 4096, 0, 0, 0, 0, 0, 0])
        self.assertEqual(fewest, [1, 0, 4, 0, 0, 0, 0, 0, 0])
        # 2, 2, 2 and 0 games: 4 times 90; 2, 2, 1 and 1 games: 6 times 180.
        self.assertEqual(fair, [2, 0, 1440, 0, 0, 1, 1, 2, 2])

    def test_six_games_in_four_halls(self):
        day = [begins(4, 4), way(0, 1, 10), way(0, 2, 20), way(0, 3, 30), way(1, 2, 40), way(1, 3, 50), way(2, 3, 60)]
        day += [at(100 * number, hall) for number, hall in enumerate((0, 1, 2, 3, 0, 0))]
        best, fewest, fair = searched(*day)
        # Each keeps to a hall.
        self.assertEqual(best, [0, 24, 0, 1, 2, 3, 0, 0])
        self.assertEqual(fewest, [1, 10 + 40 + 60 + 30, 4, 0, 0, 0, 0, 0, 0])
        # Of hall 0's three games one must go to another; cheapest is the way between halls 0 and 1, before or behind.
        self.assertEqual(fair, [2, 10, 3 * 24, 0, 0, 1, 2, 3, 3])


if __name__ == "__main__":
    unittest.main()
