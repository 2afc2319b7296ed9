"""Every refusal of begins, way, game and bar: its edges, its place in the order, and that it changes nothing."""

import unittest

from helper import TOP, bar, begins, first_numbers, game, games_of, last_number, way
from refereeplans.day import Day

SIX_GAMES = [game()] * 6


class BeginsRefused(unittest.TestCase):
    def test_the_edges(self):
        for number, told in ((0, -1), (1, 0), (4, 0), (5, -1), (TOP, -1)):
            with self.subTest(number=number):
                self.assertEqual(last_number(begins(number, 2)), told)
                self.assertEqual(last_number(begins(2, number)), told)

    def test_both_out_of_bounds(self):
        for referees in (0, 5, TOP):
            for halls in (0, 5, TOP):
                with self.subTest(referees=referees, halls=halls):
                    self.assertEqual(last_number(begins(referees, halls)), -1)

    def test_all_is_as_it_was(self):
        for refused in (begins(0, 1), begins(1, 0), begins(5, 1), begins(1, 5), begins(TOP, TOP)):
            with self.subTest(refused=refused):
                calls = [begins(2, 3), game(hall=2), bar(1, 4), refused]
                calls += [game(hall=2), game(hall=3), bar(1, 4), bar(1, 5), bar(2, 5)]
                self.assertEqual(first_numbers(*calls), [0, 0, 1, -1, 1, -2, -4, 2, -2])

    def test_the_ways_stay(self):
        day = Day()
        day.begins(1, 2)
        day.way(0, 1, 15)
        self.assertEqual([day.begins(5, 2), day.begins(1, 5)], [-1, -1])
        self.assertEqual(day.way_between(0, 1), 15)


class WayRefused(unittest.TestCase):
    def test_a_hall_that_is_not_there(self):
        for halls in range(1, 5):
            for missing in (halls, halls + 1, TOP):
                with self.subTest(halls=halls, missing=missing):
                    self.assertEqual(last_number(begins(1, halls), way(missing, 0, 5)), -2)
                    self.assertEqual(last_number(begins(1, halls), way(0, missing, 5)), -2)
                    self.assertEqual(last_number(begins(1, halls), way(missing, missing + (missing < TOP), 5)), -2)

    def test_the_last_hall_is_there(self):
        for halls in range(2, 5):
            with self.subTest(halls=halls):
                self.assertEqual(last_number(begins(1, halls), way(halls - 1, 0, 5)), 0)
                self.assertEqual(last_number(begins(1, halls), way(0, halls - 1, 5)), 0)

    def test_minutes(self):
        for minutes, told in ((0, 0), (1, 0), (999, 0), (1000, 0), (1001, -1), (TOP, -1)):
            with self.subTest(minutes=minutes):
                self.assertEqual(last_number(begins(1, 2), way(0, 1, minutes)), told)

    def test_both_the_same(self):
        for hall in range(4):
            with self.subTest(hall=hall):
                self.assertEqual(last_number(begins(1, 4), way(hall, hall, 0)), -4)
                self.assertEqual(last_number(begins(1, 4), way(hall, hall, 1000)), -4)

    def test_of_two_the_one_told_first(self):
        cases = (
            ("not there, above 1000", way(2, 0, 1001), -2),
            ("other not there, above 1000", way(0, 2, 1001), -2),
            ("not there, the same", way(2, 2, 5), -2),
            ("above 1000, the same", way(1, 1, 1001), -1),
            ("not there, above 1000, the same", way(TOP, TOP, TOP), -2),
        )
        for name, call, told in cases:
            with self.subTest(name):
                self.assertEqual(last_number(begins(1, 2), call), told)

    def test_all_is_as_it_was(self):
        for refused, told in ((way(0, 2, 5), -2), (way(0, 1, 1001), -1), (way(1, 1, 5), -4)):
            with self.subTest(refused=refused):
                calls = [begins(1, 2), game(), bar(0, 4), refused]
                calls += [game(hall=1), game(hall=2), bar(0, 4), bar(0, 5), bar(1, 5), way(0, 1, 5)]
                self.assertEqual(first_numbers(*calls), [0, 0, 1, told, 1, -2, -4, 2, -2, 0])

    def test_the_ways_stay(self):
        day = Day()
        day.begins(1, 2)
        day.way(0, 1, 15)
        self.assertEqual([day.way(0, 2, 5), day.way(2, 0, 5), day.way(1, 0, 1001), day.way(1, 1, 5)], [-2, -2, -1, -4])
        pairs = [(0, 0), (0, 1), (1, 0), (1, 1), (0, 2), (2, 0)]
        self.assertEqual([day.way_between(hall, other) for hall, other in pairs], [0, 15, 15, 0, 0, 0])


class GameRefused(unittest.TestCase):
    def test_a_hall_that_is_not_there(self):
        for halls in range(1, 5):
            for hall, told in ((0, 0), (halls - 1, 0), (halls, -2), (halls + 1, -2), (TOP, -2)):
                with self.subTest(halls=halls, hall=hall):
                    self.assertEqual(last_number(begins(1, halls), game(hall=hall)), told)

    def test_when_it_begins_and_ends(self):
        cases = (
            (0, 1, 0), (0, 0, -1), (1, 0, -1), (5, 6, 0), (5, 5, -1), (5, 4, -1),
            (0, 1000, 0), (0, 1001, -1), (999, 1000, 0), (1000, 1000, -1), (1000, 1001, -1), (1001, 1002, -1),
            (1001, 1000, -1), (999, 1001, -1), (0, TOP, -1), (TOP, 0, -1), (TOP, TOP, -1), (TOP - 1, TOP, -1),
            (TOP, 1000, -1),
        )
        for begin, end, told in cases:
            with self.subTest(begin=begin, end=end):
                self.assertEqual(last_number(game(begin=begin, end=end)), told)

    def test_the_teams(self):
        cases = (
            (0, 19, 0), (19, 0, 0), (18, 19, 0), (0, 20, -1), (20, 0, -1), (19, 20, -1), (20, 21, -1),
            (0, TOP, -1), (TOP, 0, -1), (TOP, TOP, -1), (0, 0, -1), (7, 7, -1), (19, 19, -1), (20, 20, -1),
        )
        for one, other, told in cases:
            with self.subTest(one=one, other=other):
                self.assertEqual(last_number(game(one=one, other=other)), told)

    def test_the_sixth_and_the_seventh(self):
        self.assertEqual(first_numbers(*SIX_GAMES, game(), game()), [0, 1, 2, 3, 4, 5, -5, -5])

    def test_of_two_the_one_told_first(self):
        wrong = (
            ("ends as it begins", {"begin": 4, "end": 4}), ("ends ahead", {"begin": 4, "end": 3}),
            ("above 1000", {"end": 1001}), ("a team", {"one": 20}), ("another team", {"other": 20}),
            ("the same team", {"one": 3, "other": 3}),
        )
        for name, numbers in wrong:
            with self.subTest(name):
                self.assertEqual(last_number(game(hall=1, **numbers)), -2)
                self.assertEqual(last_number(*SIX_GAMES, game(**numbers)), -1)
                self.assertEqual(last_number(*SIX_GAMES, game(hall=1, **numbers)), -2)
        self.assertEqual(last_number(*SIX_GAMES, game(hall=1)), -2)

    def test_all_is_as_it_was(self):
        cases = (
            (game(hall=2), -2), (game(end=0), -1), (game(end=1001), -1), (game(one=20), -1), (game(other=20), -1),
            (game(one=1, other=1), -1),
        )
        for refused, told in cases:
            with self.subTest(refused=refused):
                calls = [begins(1, 2), game(), bar(0, 4), refused]
                calls += [game(hall=1), game(hall=2), bar(0, 4), bar(0, 5), bar(1, 5)]
                self.assertEqual(first_numbers(*calls), [0, 0, 1, told, 1, -2, -4, 2, -2])

    def test_all_is_as_it_was_behind_a_seventh_game(self):
        calls = [begins(1, 2), bar(0, 4), *SIX_GAMES, game(), game(hall=2), bar(0, 4), bar(0, 5), way(1, 0, 5)]
        self.assertEqual(first_numbers(*calls)[8:], [-5, -2, -4, 2, 0])

    def test_games_and_ways_stay(self):
        day = Day()
        day.begins(1, 2)
        day.way(0, 1, 15)
        day.game(1, 10, 20, 3, 4)
        refused = [day.game(2, 0, 1, 0, 1), day.game(0, 1, 1, 0, 1), day.game(0, 0, 1, 0, 20)]
        self.assertEqual(refused, [-2, -1, -1])
        self.assertEqual(games_of(day), [(1, 10, 20, 3, 4)])
        self.assertEqual(day.way_between(0, 1), 15)


class BarRefused(unittest.TestCase):
    def test_a_referee_who_is_not_there(self):
        for referees in range(1, 5):
            cases = ((0, 1), (referees - 1, 1), (referees, -2), (referees + 1, -2), (TOP, -2))
            for referee, told in cases:
                with self.subTest(referees=referees, referee=referee):
                    self.assertEqual(last_number(begins(referees, 1), bar(referee, 0)), told)

    def test_the_team(self):
        for team, told in ((0, 1), (1, 1), (19, 1), (20, -1), (21, -1), (TOP, -1)):
            with self.subTest(team=team):
                self.assertEqual(last_number(bar(0, team)), told)

    def test_it_has_been_told(self):
        calls = [begins(2, 1), bar(1, 5), bar(1, 5), bar(0, 5), bar(1, 5), bar(0, 5)]
        self.assertEqual(first_numbers(*calls), [0, 1, -4, 2, -4, -4])

    def test_of_two_the_one_told_first(self):
        # A bar that has been told has a referee and a team that are there: only -2 and -1 can meet.
        self.assertEqual(first_numbers(bar(1, 20), bar(TOP, TOP)), [-2, -2])

    def test_all_is_as_it_was(self):
        for refused, told in ((bar(1, 5), -2), (bar(0, 20), -1), (bar(0, 4), -4)):
            with self.subTest(refused=refused):
                calls = [begins(1, 2), game(), bar(0, 4), refused]
                calls += [refused, game(hall=1), game(hall=2), bar(0, 4), bar(0, 5), bar(1, 5), way(0, 1, 5)]
                self.assertEqual(first_numbers(*calls), [0, 0, 1, told, told, 1, -2, -4, 2, -2, 0])

    def test_a_refused_bar_is_not_told(self):
        # Referee 1 and team 5 come to be there later on; what was refused must not count then.
        calls = [bar(1, 5), begins(2, 1), bar(1, 5)]
        self.assertEqual(first_numbers(*calls), [-2, 0, 1])


if __name__ == "__main__":
    unittest.main()
