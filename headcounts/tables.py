"""The table of ballots."""

from headcounts.checks import need_ballots


def counted(candidates, ballots):
    """By how many ballots each candidate is ahead of each one, in rows."""
    need_ballots(candidates, ballots)
    return tallied(candidates, ballots)


def tallied(candidates, ballots):
    """The table of what is known to be ballots."""
    table = [[0] * candidates for row in range(candidates)]
    for order, many in ballots:
        for place, ahead in enumerate(order):
            for behind in order[place + 1:]:
                table[ahead][behind] += many
                table[behind][ahead] -= many
    return table
