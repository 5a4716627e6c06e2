"""What is a number, a candidate, a ballot, a table, of a value of any kind; and the refusals of what is none."""

from headcounts.errors import BadBallots, BadCandidates, BadTable

MOST_CANDIDATES = 20


def is_number(thing):
    # True and False would pass as 1 and 0.
    return isinstance(thing, int) and not isinstance(thing, bool)


def is_count_of_candidates(thing):
    return is_number(thing) and 1 <= thing <= MOST_CANDIDATES


def is_candidate(candidates, thing):
    return is_number(thing) and 0 <= thing < candidates


def are_unlike_candidates(candidates, things):
    """Whether all of a list or a tuple are candidates, none of them twice."""
    # The kinds go first: a set takes no list as its member.
    if not all(is_candidate(candidates, thing) for thing in things):
        return False
    return len(set(things)) == len(things)


def is_order(candidates, thing):
    if not isinstance(thing, list) or len(thing) != candidates:
        return False
    return are_unlike_candidates(candidates, thing)


def is_pair(thing):
    return isinstance(thing, tuple) and len(thing) == 2


def is_ballot(candidates, thing):
    if not is_pair(thing):
        return False
    order, many = thing
    return is_order(candidates, order) and is_number(many) and many >= 1


def are_ballots(candidates, thing):
    if not isinstance(thing, list):
        return False
    return all(is_ballot(candidates, ballot) for ballot in thing)


def is_unlike_pair(candidates, thing):
    return is_pair(thing) and are_unlike_candidates(candidates, thing)


def is_way(candidates, thing):
    """Whether it is a list of candidates, one at least, none of them twice."""
    if not isinstance(thing, list) or len(thing) == 0:
        return False
    return are_unlike_candidates(candidates, thing)


def is_row(candidates, thing):
    if not isinstance(thing, list) or len(thing) != candidates:
        return False
    return all(is_number(number) for number in thing)


def is_table(thing):
    if not isinstance(thing, list) or not is_count_of_candidates(len(thing)):
        return False
    if not all(is_row(len(thing), row) for row in thing):
        return False
    return is_turned_about(thing)


def is_turned_about(rows):
    """Whether each number is as much above or below 0 as the other one's is below or above."""
    # A candidate's own number is compared with itself: only 0 stays what it is.
    return all(row[other] == -rows[other][who] for who, row in enumerate(rows) for other in range(who + 1))


def need_ballots(candidates, ballots):
    # No refusal names a number: Python does not write out a very great one.
    if not is_count_of_candidates(candidates):
        raise BadCandidates("candidates: a whole number from 1 to 20 is needed")
    if not are_ballots(candidates, ballots):
        raise BadBallots("ballots: pairs of an order of all candidates and a whole number from 1 on are needed")


def need_table(table):
    if not is_table(table):
        raise BadTable("table: 1 to 20 rows of as many whole numbers are needed, each the other one's turned about")
