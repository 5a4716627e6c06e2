"""Ballots whose table is a given one, or why there are none."""

from headcounts.answers import Ballots, Uneven, is_odd
from headcounts.checks import need_table
from headcounts.tables import tallied


def told(table):
    """Ballots whose table it is; else two pairs, the number of one of them even, that of the other one odd."""
    need_table(table)
    pairs = [(one, other) for other in range(len(table)) for one in range(other)]
    even = [pair for pair in pairs if not is_odd(table, pair)]
    odd = [pair for pair in pairs if is_odd(table, pair)]
    if even and odd:
        return Uneven(even[0], odd[0])
    if odd:
        # One ballot of any order turns all numbers that are still to be made from odd to even.
        return Ballots(completed(table, [(list(range(len(table))), 1)]))
    return Ballots(completed(table, []))


def completed(table, ballots):
    """These ballots, and more: the table's numbers less theirs must be even."""
    candidates = len(table)
    made = tallied(candidates, ballots)
    every = list(ballots)
    for ahead in range(candidates):
        for behind in range(candidates):
            missing = table[ahead][behind] - made[ahead][behind]
            # Below 0 it is made where the two stand in the other turn.
            if missing > 0:
                every.extend(two_ballots(candidates, ahead, behind, missing // 2))
    return every


def two_ballots(candidates, ahead, behind, many):
    """Ballots that put the one ahead of the other by twice as many, and are level about every other two."""
    rest = [who for who in range(candidates) if who not in (ahead, behind)]
    return [([ahead, behind] + rest, many), (rest[::-1] + [ahead, behind], many)]
