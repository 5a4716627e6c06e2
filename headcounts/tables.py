"""The table of ballots."""

from headcounts.checks import are_ballots, is_count_of_candidates
from headcounts.errors import BadBallots, BadCandidates


def counted(candidates, ballots):
    """By how many ballots each candidate is ahead of each one, in rows."""
    # The refusals name no number: Python does not write out a very great one.
    if not is_count_of_candidates(candidates):
        raise BadCandidates("candidates: a whole number from 1 to 20 is needed")
    if not are_ballots(candidates, ballots):
        raise BadBallots("ballots: pairs of an order of all candidates and a whole number from 1 on are needed")
    return tallied(candidates, ballots)


def tallied(candidates, ballots):
    """The table of what is known to be ballots."""
    table = [[0] * candidates for row in range(candidates)]
    for order, many in ballots:
        for place, ahead in enumerate(order):
            for behind in order[place + 1:]:
                table[ahead][behind] += many
                table[behind][ahead] -= many
    return table
