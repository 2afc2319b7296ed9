"""What begins, way, game and bar answer when nothing is refused, and what they change."""

import unittest

from helper import bar, begins, first_numbers, game, games_of, line, way
from refereeplans.day import Day, answers


class TheList(unittest.TestCase):
    """The form of what is handed in and given back, with every number written out."""

    def test_each_call_alone(self):
        self.assertEqual(answers([0, 2, 3, 2, 0]), [1, 0])
        self.assertEqual(answers([2, 5, 0, 10, 20, 3, 4, 0]), [1, 0])
        self.assertEqual(answers([3, 2, 0, 7, 0]), [1, 1])
        # On a new day there is one hall, so that no way can be told ahead of begins.
        self.assertEqual(answers([1, 3, 0, 1, 15, 0]), [1, -2])

    def test_way_behind_begins(self):
        self.assertEqual(answers([0, 2, 1, 2, 0, 1, 3, 0, 1, 15, 0]), [1, 0, 1, 0])

    def test_several_in_one_list(self):
        calls = [
            0, 2, 2, 3, 0,
            1, 3, 2, 0, 30, 0,
            2, 5, 2, 0, 60, 5, 6, 0,
            3, 2, 1, 5, 0,
            2, 5, 0, 90, 150, 6, 7, 0,
            3, 2, 0, 5, 0,
        ]
        self.assertEqual(answers(calls), [1, 0, 1, 0, 1, 0, 1, 1, 1, 1, 1, 2])

    def test_a_refusal_stands_alone_and_the_next_call_is_answered(self):
        self.assertEqual(answers([0, 2, 0, 1, 0, 3, 2, 0, 0, 0]), [1, -1, 1, 1])

    def test_it_gives_back_a_list_of_int(self):
        given = answers(line(begins(2, 2), way(0, 1, 5), game(), bar(1, 2), bar(1, 2)))
        self.assertIs(type(given), list)
        self.assertEqual({type(number) for number in given}, {int})

    def test_sixty_calls(self):
        calls = [begins(4, 4)] + [bar(at // 20, at % 20) for at in range(59)]
        self.assertEqual(first_numbers(*calls), [0] + list(range(1, 60)))


class ANewDay(unittest.TestCase):
    def test_one_referee(self):
        self.assertEqual(first_numbers(bar(0, 0), bar(1, 0)), [1, -2])

    def test_one_hall(self):
        self.assertEqual(first_numbers(game(hall=0), game(hall=1)), [0, -2])
        self.assertEqual(first_numbers(way(0, 0, 1), way(0, 1, 1), way(1, 0, 1)), [-4, -2, -2])

    def test_no_games(self):
        self.assertEqual(first_numbers(*[game()] * 6), [0, 1, 2, 3, 4, 5])

    def test_nobody_barred(self):
        self.assertEqual(first_numbers(*[bar(0, team) for team in range(20)]), list(range(1, 21)))

    def test_nothing_is_kept_for_the_next_time(self):
        full = [begins(4, 4), way(0, 1, 9), bar(0, 0), bar(3, 19)] + [game(hall=3)] * 6
        for time in range(3):
            with self.subTest(time=time):
                self.assertEqual(first_numbers(*full), [0, 0, 1, 2, 0, 1, 2, 3, 4, 5])
                self.assertEqual(first_numbers(game(), bar(0, 0)), [0, 1])
                self.assertEqual(first_numbers(game(hall=1), bar(1, 0), way(0, 1, 9)), [-2, -2, -2])

    def test_all_ways_are_0(self):
        self.assertEqual(Day().way_between(0, 0), 0)


class Begins(unittest.TestCase):
    def test_every_number_of_referees_and_halls(self):
        for referees in range(1, 5):
            for halls in range(1, 5):
                with self.subTest(referees=referees, halls=halls):
                    bars = [bar(referee, 0) for referee in range(5)]
                    games = [game(hall=hall) for hall in range(5)]
                    told = first_numbers(begins(referees, halls), *bars, *games)
                    self.assertEqual(told[0], 0)
                    self.assertEqual(told[1:6], list(range(1, referees + 1)) + [-2] * (5 - referees))
                    self.assertEqual(told[6:], list(range(halls)) + [-2] * (5 - halls))

    def test_it_takes_the_games_away(self):
        calls = [game(), game(), begins(1, 1)] + [game()] * 7
        self.assertEqual(first_numbers(*calls), [0, 1, 0, 0, 1, 2, 3, 4, 5, -5])

    def test_it_takes_the_bars_away(self):
        calls = [bar(0, 3), bar(0, 4), begins(1, 1), bar(0, 3), bar(0, 4)]
        self.assertEqual(first_numbers(*calls), [1, 2, 0, 1, 2])

    def test_it_takes_the_ways_away(self):
        day = Day()
        day.begins(1, 2)
        day.way(0, 1, 15)
        day.begins(1, 2)
        self.assertEqual((day.way_between(0, 1), day.way_between(1, 0)), (0, 0))

    def test_fewer_than_before(self):
        calls = [begins(4, 4), begins(2, 3), bar(1, 0), bar(2, 0), game(hall=2), game(hall=3), way(0, 3, 1)]
        self.assertEqual(first_numbers(*calls), [0, 0, 1, -2, 0, -2, -2])


class Way(unittest.TestCase):
    def test_every_two_halls_in_both_orders(self):
        for hall in range(4):
            for other in range(4):
                if hall != other:
                    with self.subTest(hall=hall, other=other):
                        self.assertEqual(first_numbers(begins(1, 4), way(hall, other, 15)), [0, 0])

    def test_told_again(self):
        calls = [begins(1, 2), way(0, 1, 15), way(0, 1, 15), way(1, 0, 20), way(0, 1, 0)]
        self.assertEqual(first_numbers(*calls), [0, 0, 0, 0, 0])

    def test_there_and_back_alike(self):
        day = Day()
        day.begins(1, 3)
        day.way(2, 0, 15)
        self.assertEqual((day.way_between(0, 2), day.way_between(2, 0)), (15, 15))

    def test_0_where_nothing_was_told(self):
        day = Day()
        day.begins(1, 3)
        day.way(2, 0, 15)
        others = [(0, 0), (0, 1), (1, 0), (1, 1), (1, 2), (2, 1), (2, 2)]
        self.assertEqual([day.way_between(hall, other) for hall, other in others], [0] * 7)

    def test_what_was_told_before_is_told_no_more(self):
        for again in ((0, 1), (1, 0)):
            with self.subTest(again=again):
                day = Day()
                day.begins(1, 2)
                day.way(0, 1, 15)
                day.way(again[0], again[1], 7)
                self.assertEqual((day.way_between(0, 1), day.way_between(1, 0)), (7, 7))

    def test_it_changes_no_games_and_no_bars(self):
        calls = [begins(1, 2), game(), bar(0, 0), way(0, 1, 5), game(), bar(0, 0), bar(0, 1)]
        self.assertEqual(first_numbers(*calls), [0, 0, 1, 0, 1, -4, 2])


class Game(unittest.TestCase):
    def test_they_are_numbered_on_from_0(self):
        again = game(0, 10, 20, 1, 2)
        calls = [begins(1, 2), again, bar(0, 9), game(1, 5, 500, 2, 1), way(0, 1, 3), again]
        self.assertEqual(first_numbers(*calls), [0, 0, 1, 1, 0, 2])

    def test_each_is_kept_as_told(self):
        day = Day()
        day.begins(1, 2)
        day.game(1, 10, 20, 3, 4)
        day.game(0, 30, 45, 6, 5)
        self.assertEqual(games_of(day), [(1, 10, 20, 3, 4), (0, 30, 45, 6, 5)])


class Bar(unittest.TestCase):
    def test_they_are_counted_over_all_referees(self):
        calls = [begins(3, 1), bar(0, 5), bar(1, 5), game(), bar(0, 6), bar(2, 5)]
        self.assertEqual(first_numbers(*calls), [0, 1, 2, 0, 3, 4])

    def test_referee_and_team_are_not_mixed_up(self):
        self.assertEqual(first_numbers(begins(3, 1), bar(1, 2), bar(2, 1)), [0, 1, 2])

    def test_a_team_without_a_game_may_be_barred(self):
        self.assertEqual(first_numbers(game(one=0, other=1), bar(0, 12)), [0, 1])


if __name__ == "__main__":
    unittest.main()
