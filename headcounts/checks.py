"""What is a number, a candidate, a ballot: True or False of a value of any kind."""

MOST_CANDIDATES = 20


def is_number(thing):
    # True and False would pass as 1 and 0.
    return isinstance(thing, int) and not isinstance(thing, bool)


def is_count_of_candidates(thing):
    return is_number(thing) and 1 <= thing <= MOST_CANDIDATES


def is_candidate(candidates, thing):
    return is_number(thing) and 0 <= thing < candidates


def are_unlike_candidates(candidates, things):
    """Whether all of a list or a tuple are candidates, none of them twice."""
    # The kinds go first: a set takes no list as its member.
    if not all(is_candidate(candidates, thing) for thing in things):
        return False
    return len(set(things)) == len(things)


def is_order(candidates, thing):
    if not isinstance(thing, list) or len(thing) != candidates:
        return False
    return are_unlike_candidates(candidates, thing)


def is_pair(thing):
    return isinstance(thing, tuple) and len(thing) == 2


def is_ballot(candidates, thing):
    if not is_pair(thing):
        return False
    order, many = thing
    return is_order(candidates, order) and is_number(many) and many >= 1


def are_ballots(candidates, thing):
    if not isinstance(thing, list):
        return False
    return all(is_ballot(candidates, ballot) for ballot in thing)


def is_unlike_pair(candidates, thing):
    return is_pair(thing) and are_unlike_candidates(candidates, thing)


def is_way(candidates, thing):
    """Whether it is a list of candidates, one at least, none of them twice."""
    if not isinstance(thing, list) or len(thing) == 0:
        return False
    return are_unlike_candidates(candidates, thing)
