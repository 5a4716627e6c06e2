"""Ballots that fall off to both sides of their first candidate, and the middle one's top."""

from headcounts.checks import need_ballots
from headcounts.errors import NotPeaked


def peaked(candidates, ballots):
    """Whether, however many first candidates of a ballot are taken, these have no gap."""
    need_ballots(candidates, ballots)
    return all(is_peaked(order) for order, many in ballots)


def is_peaked(order):
    low = high = order[0]
    for who in order[1:]:
        if who == low - 1:
            low = who
        elif who == high + 1:
            high = who
        else:
            return False
    return True


def middle(candidates, ballots):
    """The least candidate such that at least half of all ballots have it, or a lesser one, first."""
    if not peaked(candidates, ballots):
        raise NotPeaked("ballots: the first candidates of one of them have a gap")
    firsts = [0] * candidates
    for order, many in ballots:
        firsts[order[0]] += many
    total = sum(firsts)
    who = 0
    reached = firsts[0]
    while 2 * reached < total:
        who += 1
        reached += firsts[who]
    return who
