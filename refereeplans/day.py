"""One day of games: what the calls tell of it, and what each of them answers."""

MOST_REFEREES = 4
MOST_HALLS = 4
MOST_GAMES = 6
LONGEST_WAY = 1000
LAST_MINUTE = 1000
LAST_TEAM = 19

OUT_OF_BOUNDS = -1
NOT_THERE = -2
THE_SAME = -4
NO_ROOM = -5
BARRED = -6
NO_PLAN = -6
CLASH = -7

BEGINS = 0
WAY = 1
GAME = 2
BAR = 3
CHECK = 4
BEST = 5
FEWEST = 6
FAIR = 7


class NoSuchCall(ValueError):
    """A call's number that this program does not know."""


class Game:
    """Where and when a game is, and which two teams play it."""

    def __init__(self, hall, begin, end, one, other):
        self.hall = hall
        self.begin = begin
        self.end = end
        self.one = one
        self.other = other


class Day:
    """What has been told of a day so far, and the plans for it; each call is a method.

    A plan is a list with a referee for each game, and a game is meant by its number.
    """

    def __init__(self):
        self.referees = 1
        self.halls = 1
        self.ways = {}
        self.games = []
        self.bars = {}

    def begins(self, referees, halls):
        """Forget all that was told, for a day with so many referees and halls."""
        if not 1 <= referees <= MOST_REFEREES or not 1 <= halls <= MOST_HALLS:
            return OUT_OF_BOUNDS
        self.referees = referees
        self.halls = halls
        self.ways = {}
        self.games = []
        self.bars = {}
        return 0

    def way(self, hall, other, minutes):
        """Tell how long the way between two halls is."""
        if hall >= self.halls or other >= self.halls:
            return NOT_THERE
        if minutes > LONGEST_WAY:
            return OUT_OF_BOUNDS
        if hall == other:
            return THE_SAME
        # There and back alike: kept under both orders, so that a look-up needs no order.
        self.ways[(hall, other)] = minutes
        self.ways[(other, hall)] = minutes
        return 0

    def way_between(self, hall, other):
        """The minutes from one hall to another: 0 within a hall and where nothing was told."""
        return self.ways.get((hall, other), 0)

    def game(self, hall, begin, end, one, other):
        """Add a game of two teams and answer its number."""
        if hall >= self.halls:
            return NOT_THERE
        # A game that begins too late ends too late as well, so its end alone is held to the bound.
        if end <= begin or end > LAST_MINUTE:
            return OUT_OF_BOUNDS
        if one > LAST_TEAM or other > LAST_TEAM or one == other:
            return OUT_OF_BOUNDS
        if len(self.games) == MOST_GAMES:
            return NO_ROOM
        self.games.append(Game(hall, begin, end, one, other))
        return len(self.games) - 1

    def bar(self, referee, team):
        """Bar a referee from a team and answer how many bars there are then."""
        if referee >= self.referees:
            return NOT_THERE
        if team > LAST_TEAM:
            return OUT_OF_BOUNDS
        if (referee, team) in self.bars:
            return THE_SAME
        self.bars[(referee, team)] = True
        return len(self.bars)

    def check(self, plan):
        """What there is to say of a plan, or the first thing that is wrong with it."""
        if not self.has_a_referee_for_each_game(plan):
            return [OUT_OF_BOUNDS]
        barred = self.barred_games(plan)
        if barred:
            return [BARRED, barred[0]]
        clashing = self.clashing_games(plan)
        if clashing:
            return [CLASH] + clashing[0]
        return [self.way_of(plan), how_many_referees(plan), most_games_of_one(plan)]

    def has_a_referee_for_each_game(self, plan):
        """Whether this is a plan for the day at all."""
        return len(plan) == len(self.games) and all([referee < self.referees for referee in plan])

    def barred_games(self, plan):
        """The games whose referee is barred from one of their teams, in order."""
        return [number for number in range(len(plan)) if self.is_barred(plan[number], self.games[number])]

    def is_barred(self, referee, game):
        """Whether the referee is barred from a team of the game."""
        return (referee, game.one) in self.bars or (referee, game.other) in self.bars

    def clashing_games(self, plan):
        """Each two games of one referee of which none lies behind the other, in order, the lower number first."""
        found = []
        for lower in range(len(plan)):
            for higher in range(lower + 1, len(plan)):
                if plan[lower] == plan[higher] and self.clash(self.games[lower], self.games[higher]):
                    found.append([lower, higher])
        return found

    def clash(self, one, other):
        """Whether nobody can judge both games."""
        return not self.lies_behind(one, other) and not self.lies_behind(other, one)

    def lies_behind(self, late, early):
        """Whether there is time for the way from the end of the early game to the late one."""
        return late.begin >= early.end + self.way_between(early.hall, late.hall)

    def way_of(self, plan):
        """The minutes that all referees together are on their ways."""
        # Sorting leaves games that begin at once in the order of their numbers.
        in_order = sorted(range(len(plan)), key=lambda number: self.games[number].begin)
        minutes = 0
        last_halls = {}
        for number in in_order:
            hall = self.games[number].hall
            minutes += self.way_between(last_halls.get(plan[number], hall), hall)
            last_halls[plan[number]] = hall
        return minutes

    def best(self):
        """The plans with the least way."""
        return self.least(lambda plan: [self.way_of(plan)])

    def fewest(self):
        """The plans with the fewest referees, and of these the ones with the least way."""
        return self.least(lambda plan: [how_many_referees(plan), self.way_of(plan)])

    def fair(self):
        """The plans whose busiest referee has the fewest games, and of these the ones with the least way."""
        return self.least(lambda plan: [most_games_of_one(plan), self.way_of(plan)])

    def least(self, measure):
        """The least measure that a plan can have, how many plans have it, and the earliest of these."""
        plans = self.plans_that_can_be()
        if not plans:
            return [NO_PLAN]
        measures = [measure(plan) for plan in plans]
        lowest = min(measures)
        return lowest + [measures.count(lowest)] + plans[measures.index(lowest)]

    def plans_that_can_be(self):
        """Every plan that can be, an earlier one ahead of a later one."""
        plans = [[]]
        for game in self.games:
            # What cannot be for the first games alone cannot be for more of them either.
            plans = [plan for plan in self.one_game_longer(plans) if self.can_be(plan)]
        return plans

    def one_game_longer(self, plans):
        """Each plan with each referee for its next game."""
        longer = []
        for plan in plans:
            for referee in range(self.referees):
                longer.append(plan + [referee])
        return longer

    def can_be(self, plan):
        """Whether a plan, which may be for the first games alone, has nothing against it."""
        return not self.barred_games(plan) and not self.clashing_games(plan)


def how_many_referees(plan):
    """How many referees judge a game at all."""
    return len(set(plan))


def most_games_of_one(plan):
    """How many games the referee with the most of them judges."""
    return max([plan.count(referee) for referee in plan], default=0)


def answer(day, call, numbers):
    """All the numbers that one call answers."""
    if call == BEGINS:
        return [day.begins(numbers[0], numbers[1])]
    if call == WAY:
        return [day.way(numbers[0], numbers[1], numbers[2])]
    if call == GAME:
        return [day.game(numbers[0], numbers[1], numbers[2], numbers[3], numbers[4])]
    if call == BAR:
        return [day.bar(numbers[0], numbers[1])]
    if call == CHECK:
        return day.check(numbers)
    if call == BEST:
        return day.best()
    if call == FEWEST:
        return day.fewest()
    if call == FAIR:
        return day.fair()
    raise NoSuchCall("no such call")


def answers(calls):
    """The answers to all calls on a new day, each with how many numbers it has ahead of it."""
    day = Day()
    told = []
    at = 0
    while at < len(calls):
        behind = at + 2 + calls[at + 1]
        answered = answer(day, calls[at], calls[at + 2:behind])
        told.append(len(answered))
        told.extend(answered)
        # No call has lists: of these there is only their count, a 0, to step over.
        at = behind + 1
    return told
