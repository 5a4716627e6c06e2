"""Who is ahead: of everybody, of all outside a group, and by the strongest chains."""

from headcounts.answers import Ring, Unbeaten
from headcounts.checks import need_table


def foremost(table):
    """A candidate of whom no other one is ahead, if there is one; else a ring."""
    need_table(table)
    for who in range(len(table)):
        if not those_ahead_of(table, who):
            return Unbeaten(who)
    return Ring(ring_found(table))


def those_ahead_of(table, who):
    return [other for other, number in enumerate(table[who]) if number < 0]


def ring_found(table):
    """A ring of a table in which somebody is ahead of each candidate."""
    # From each one to somebody ahead of it, until one comes again: from there on it is a ring, backwards.
    way = [0]
    following = those_ahead_of(table, 0)[0]
    while following not in way:
        way.append(following)
        following = those_ahead_of(table, following)[0]
    return way[way.index(following):][::-1]


def tops(table):
    """The least group, one at least, each of whom is ahead of each candidate that is not in it."""
    need_table(table)
    # Of two such groups the one always holds the other, so the shortest one is in all of them.
    return sorted(min([group_with(table, who) for who in range(len(table))], key=len))


def group_with(table, who):
    """The least group with this candidate in it, each of whom is ahead of each one that is not."""
    group = [who]
    place = 0
    while place < len(group):
        row = table[group[place]]
        group.extend([other for other, number in enumerate(row) if number <= 0 and other not in group])
        place += 1
    return group


def strengths(table):
    """How strong each candidate's strongest chain to each other one is, in rows; 0 to itself."""
    need_table(table)
    return strongest_chains(table)


def strongest_chains(table):
    """The strengths of what is known to be a table."""
    candidates = len(table)
    rows = [list(row) for row in table]
    for between in range(candidates):
        for start in range(candidates):
            for end in range(candidates):
                # A way that comes back to its start is no chain.
                if start != end:
                    through = min(rows[start][between], rows[between][end])
                    rows[start][end] = max(rows[start][end], through)
    return rows


def order(table):
    """All candidates, none behind another one to whom its strongest chain is stronger than that one's to it."""
    need_table(table)
    rows = strongest_chains(table)
    # Whoever is stronger than another one is so than all whom that one is stronger than: it has more of them.
    return sorted(range(len(rows)), key=lambda who: -len(weaker_ones(rows, who)))


def weaker_ones(rows, who):
    return [other for other in range(len(rows)) if rows[who][other] > rows[other][who]]
