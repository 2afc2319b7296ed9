"""check, best, fewest and fair held against a plain search over all plans, over many days."""

import itertools
import unittest

from helper import BEST, FAIR, FEWEST, TOP, bar, begins, check, each_answer, game, way


class PlainDay:
    """A day and the plain search over all its plans, by the document's words alone, without the program.

    Ways are kept by two halls, games as (hall, begins, ends, a team, a team), bars as pairs.
    """

    def __init__(self, referees, halls, ways, games, bars):
        self.referees = referees
        self.halls = halls
        self.ways = ways
        self.games = games
        self.bars = bars

    def way(self, game, other):
        halls = frozenset((self.games[game][0], self.games[other][0]))
        return 0 if len(halls) == 1 else self.ways.get(halls, 0)

    def behind(self, game, other):
        return self.games[game][1] >= self.games[other][2] + self.way(game, other)

    def judged(self, plan, referee):
        """A referee's games in order of when they begin, of several at once by number."""
        own = [game for game in range(len(plan)) if plan[game] == referee]
        return sorted(own, key=lambda game: (self.games[game][1], game))

    def barred(self, plan):
        return [game for game in range(len(plan)) if {(plan[game], team) for team in self.games[game][3:]} & self.bars]

    def clashes(self, plan):
        pairs = itertools.combinations(range(len(plan)), 2)
        alike = [(game, other) for game, other in pairs if plan[game] == plan[other]]
        return [(game, other) for game, other in alike if not self.behind(game, other) and not self.behind(other, game)]

    def measures(self, plan):
        """Its way, how many referees judge a game, how many games the one with the most judges."""
        rows = [self.judged(plan, referee) for referee in range(self.referees)]
        steps = [step for row in rows for step in zip(row, row[1:])]
        return sum(self.way(*step) for step in steps), sum(bool(row) for row in rows), max(len(row) for row in rows)

    def check(self, plan):
        if len(plan) != len(self.games) or any(referee not in range(self.referees) for referee in plan):
            return [-1]
        if self.barred(plan):
            return [-6, min(self.barred(plan))]
        if self.clashes(plan):
            return [-7, *min(self.clashes(plan))]
        return list(self.measures(plan))

    def all_plans(self):
        return itertools.product(range(self.referees), repeat=len(self.games))

    def searched(self):
        """What best, fewest and fair answer."""
        can_be = [(plan, self.measures(plan)) for plan in self.all_plans() if self.check(plan)[0] >= 0]
        return [self.chosen(can_be, order) for order in ((0,), (1, 0), (2, 0))]

    def chosen(self, can_be, order):
        if not can_be:
            return [-6]
        good = min([measures[place] for place in order] for plan, measures in can_be)
        as_good = [plan for plan, measures in can_be if [measures[place] for place in order] == good]
        return [*good, len(as_good), *min(as_good)]


class Dice:
    """Numbers in a row that is always the same one, so that a day that fails is found again."""

    def __init__(self, seed):
        self.state = seed * 2654435761 % 2**32

    def below(self, bound):
        self.state = (self.state * 6364136223846793005 + 1442695040888963407) % 2**64
        return (self.state >> 33) % bound

    def between(self, low, high):
        return low + self.below(high - low + 1)


def thrown_day(dice, referees, games):
    """A day with few teams and, time and again, short minutes and ways, so that much clashes and much is as good."""
    halls = (1, 2, 3, 4, 4)[dice.below(5)]
    last = (1000, 400, 120, 60)[dice.below(4)]
    longest_game = max(1, last // dice.between(2, 20))
    longest_way = (0, 5, 30, last // 8, last // 4)[dice.below(5)]
    teams = dice.between(2, 20)
    ways = {}
    for pair in itertools.combinations(range(halls), 2):
        if dice.below(8):
            ways[frozenset(pair)] = dice.between(0, longest_way)
    told = []
    for number in range(games):
        begin = dice.below(last - longest_game + 1)
        one = dice.below(teams)
        other = (one + dice.between(1, teams - 1)) % teams
        told.append((dice.below(halls), begin, begin + dice.between(1, longest_game), one, other))
    bars = {(dice.below(referees), dice.below(teams)) for bar_number in range(dice.below(8))}
    return PlainDay(referees, halls, ways, told, bars)


def calls_of(day, dice):
    """The calls that tell of a day; a way in whichever order of its halls."""
    calls = [begins(day.referees, day.halls)]
    for halls, minutes in day.ways.items():
        hall, other = sorted(halls)
        calls.append(way(hall, other, minutes) if dice.below(2) else way(other, hall, minutes))
    calls += [game(*one) for one in day.games]
    calls += [bar(*one) for one in sorted(day.bars)]
    return calls


def thrown_plan(day, dice):
    """A plan, at times one with a number too many or too few, or with a referee who isn't there."""
    plan = [dice.below(day.referees) for one in day.games]
    kind = dice.below(10)
    if kind == 0:
        plan.append(dice.below(day.referees))
    elif kind == 1 and plan:
        plan.pop()
    elif kind == 2 and plan:
        plan[dice.below(len(plan))] = (day.referees, TOP)[dice.below(2)]
    return plan


class AgainstThePlainSearch(unittest.TestCase):
    def hold(self, day, dice):
        """Hold a line's answers against the plain search, and give the latter's."""
        told = calls_of(day, dice)
        plans = [thrown_plan(day, dice) for each in range(20)]
        searched = day.searched()
        given = each_answer(*told, *[check(*plan) for plan in plans], BEST, FEWEST, FAIR)
        self.assertEqual(given[-3:], searched)
        self.assertEqual(given[len(told):-3], [day.check(plan) for plan in plans])
        return searched

    def test_every_number_of_referees_and_games(self):
        for referees, games in itertools.product(range(1, 5), range(7)):
            # The days with the most plans are the slow ones: of these a few are held here, more below.
            for seed in range(4 if referees ** games > 500 else 20):
                with self.subTest(referees=referees, games=games, seed=seed):
                    dice = Dice(1 + seed + 100 * games + 1000 * referees)
                    self.hold(thrown_day(dice, referees, games), dice)

    def test_many_days(self):
        seen = []
        for seed in range(400):
            with self.subTest(seed=seed):
                dice = Dice(10000 + seed)
                seen.append(self.hold(thrown_day(dice, (2, 2, 3, 3, 4)[dice.below(5)], dice.between(3, 6)), dice))
        # The days must be of all sorts, or the tests above hold little.
        possible = [(best, fewest, fair) for best, fewest, fair in seen if best != [-6]]
        self.assertGreater(len(possible), 100)
        self.assertGreater(len(seen) - len(possible), 50)
        self.assertGreater(len([1 for best, fewest, fair in possible if best[0] < fewest[1]]), 10)
        self.assertGreater(len([1 for best, fewest, fair in possible if best[0] < fair[1]]), 10)
        self.assertGreater(len([1 for best, fewest, fair in possible if best[2:] != fair[3:]]), 10)

    def test_every_plan_of_a_day(self):
        for seed in range(10):
            dice = Dice(20000 + seed)
            day = thrown_day(dice, 3, 4)
            told = calls_of(day, dice)
            plans = list(day.all_plans())
            # A line has 60 calls at most, so that the plans go into several.
            for first in range(0, len(plans), 30):
                with self.subTest(seed=seed, first=first):
                    some = plans[first:first + 30]
                    given = each_answer(*told, *[check(*plan) for plan in some])
                    self.assertEqual(given[len(told):], [day.check(plan) for plan in some])


if __name__ == "__main__":
    unittest.main()
