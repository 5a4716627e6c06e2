"""What is told of a table, and whether a table is as told."""

from headcounts.checks import are_ballots, is_candidate, is_unlike_pair, is_way
from headcounts.tables import tallied


class Answer:
    """What is told of a table."""


class Ballots(Answer):
    """Ballots whose table it is."""

    def __init__(self, ballots):
        self.ballots = copied(ballots)

    def shows(self, table):
        if not are_ballots(len(table), self.ballots):
            return False
        return tallied(len(table), self.ballots) == table


class Uneven(Answer):
    """Two pairs of unlike candidates, the number of one pair even, that of the other one odd."""

    def __init__(self, one, other):
        self.one = copied(one)
        self.other = copied(other)

    def shows(self, table):
        if not is_unlike_pair(len(table), self.one) or not is_unlike_pair(len(table), self.other):
            return False
        return is_odd(table, self.one) != is_odd(table, self.other)


class Unbeaten(Answer):
    """A candidate of whom no other one is ahead."""

    def __init__(self, who):
        self.who = copied(who)

    def shows(self, table):
        if not is_candidate(len(table), self.who):
            return False
        return all(number >= 0 for number in table[self.who])


class Ring(Answer):
    """Candidates, each of whom is ahead of the next one, the last one ahead of the first."""

    def __init__(self, way):
        self.way = copied(way)

    def shows(self, table):
        if not is_way(len(table), self.way):
            return False
        followers = self.way[1:] + self.way[:1]
        return all(table[ahead][behind] > 0 for ahead, behind in zip(self.way, followers))


def copied(thing):
    """The same again, each list new, within lists and tuples too."""
    if isinstance(thing, list):
        return [copied(part) for part in thing]
    if isinstance(thing, tuple):
        return tuple([copied(part) for part in thing])
    return thing


def is_odd(table, pair):
    first, second = pair
    return table[first][second] % 2 == 1
