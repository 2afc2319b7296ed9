"""One day of games: what the calls tell of it, and what each of them answers."""

MOST_REFEREES = 4
MOST_HALLS = 4
MOST_GAMES = 6
LONGEST_WAY = 1000
LAST_MINUTE = 1000
LAST_TEAM = 19

OUT_OF_BOUNDS = -1
NOT_THERE = -2
THE_SAME = -4
NO_ROOM = -5

BEGINS = 0
WAY = 1
GAME = 2
BAR = 3


class NoSuchCall(ValueError):
    """A call's number that this program does not know."""


class Day:
    """What has been told of a day so far; each call is a method that answers its first number."""

    def __init__(self):
        self.referees = 1
        self.halls = 1
        self.ways = {}
        self.games = []
        self.bars = {}

    def begins(self, referees, halls):
        """Forget all that was told, for a day with so many referees and halls."""
        if not 1 <= referees <= MOST_REFEREES or not 1 <= halls <= MOST_HALLS:
            return OUT_OF_BOUNDS
        self.referees = referees
        self.halls = halls
        self.ways = {}
        self.games = []
        self.bars = {}
        return 0

    def way(self, hall, other, minutes):
        """Tell how long the way between two halls is."""
        if hall >= self.halls or other >= self.halls:
            return NOT_THERE
        if minutes > LONGEST_WAY:
            return OUT_OF_BOUNDS
        if hall == other:
            return THE_SAME
        # There and back alike: kept under both orders, so that a look-up needs no order.
        self.ways[(hall, other)] = minutes
        self.ways[(other, hall)] = minutes
        return 0

    def way_between(self, hall, other):
        """The minutes from one hall to another: 0 within a hall and where nothing was told."""
        return self.ways.get((hall, other), 0)

    def game(self, hall, begin, end, one, other):
        """Add a game of two teams and answer its number."""
        if hall >= self.halls:
            return NOT_THERE
        # A game that begins too late ends too late as well, so its end alone is held to the bound.
        if end <= begin or end > LAST_MINUTE:
            return OUT_OF_BOUNDS
        if one > LAST_TEAM or other > LAST_TEAM or one == other:
            return OUT_OF_BOUNDS
        if len(self.games) == MOST_GAMES:
            return NO_ROOM
        self.games.append((hall, begin, end, one, other))
        return len(self.games) - 1

    def bar(self, referee, team):
        """Bar a referee from a team and answer how many bars there are then."""
        if referee >= self.referees:
            return NOT_THERE
        if team > LAST_TEAM:
            return OUT_OF_BOUNDS
        if (referee, team) in self.bars:
            return THE_SAME
        self.bars[(referee, team)] = True
        return len(self.bars)


def answer(day, call, numbers):
    """All the numbers that one call answers."""
    if call == BEGINS:
        return [day.begins(numbers[0], numbers[1])]
    if call == WAY:
        return [day.way(numbers[0], numbers[1], numbers[2])]
    if call == GAME:
        return [day.game(numbers[0], numbers[1], numbers[2], numbers[3], numbers[4])]
    if call == BAR:
        return [day.bar(numbers[0], numbers[1])]
    raise NoSuchCall("no such call")


def answers(calls):
    """The answers to all calls on a new day, each with how many numbers it has ahead of it."""
    day = Day()
    told = []
    at = 0
    while at < len(calls):
        behind = at + 2 + calls[at + 1]
        answered = answer(day, calls[at], calls[at + 2:behind])
        told.append(len(answered))
        told.extend(answered)
        # No call has lists: of these there is only their count, a 0, to step over.
        at = behind + 1
    return told
