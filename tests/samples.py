"""What several of the tests hand in: great numbers, many tables, and what is none."""

import itertools

GREAT = 10 ** 5000


def by_hand(candidates, ballots):
    """The table by the words of [2], pair by pair."""
    def number(one, other):
        ahead = sum(many for order, many in ballots if order.index(one) < order.index(other))
        behind = sum(many for order, many in ballots if order.index(one) > order.index(other))
        return ahead - behind
    return [[number(one, other) for other in range(candidates)] for one in range(candidates)]


def table_by(candidates, number):
    """The table with number(one, other) for each two, the lesser one first."""
    table = [[0] * candidates for row in range(candidates)]
    for one, other in itertools.combinations(range(candidates), 2):
        table[one][other] = number(one, other)
        table[other][one] = -table[one][other]
    return table


def tables_of(candidates, numbers):
    """All tables of so many candidates with these numbers above the diagonal."""
    places = list(itertools.combinations(range(candidates), 2))
    for chosen in itertools.product(numbers, repeat=len(places)):
        numbers_by_place = dict(zip(places, chosen))
        yield table_by(candidates, lambda one, other: numbers_by_place[one, other])


def lists_within(thing):
    """Each list that can be reached, itself too."""
    if isinstance(thing, (list, tuple)):
        inner = [found for part in thing for found in lists_within(part)]
        return [thing] + inner if isinstance(thing, list) else inner
    return []


WRONG_CANDIDATES = [
    0, -1, 21, 22, -20, GREAT, -GREAT, True, False, None, 3.0, 1.5, float("nan"), "3", "", b"3", [3], (3,), {3}, {3: 3},
    [], (), range(3), object(), int, [[0]],
]


class Unfriendly:
    """Cannot be compared, hashed, counted or shown."""

    __hash__ = None

    def __eq__(self, other):
        raise RuntimeError("compared")

    def __len__(self):
        raise RuntimeError("counted")

    def __iter__(self):
        raise RuntimeError("iterated")

    def __repr__(self):
        raise RuntimeError("shown")


WRONG_ORDERS = [
    # too short, too long
    [], [0], [0, 1], [1, 2], [0, 1, 2, 3], [0, 1, 2, 2], [0, 1, 2, 0],
    # one twice
    [0, 0, 1], [0, 1, 1], [2, 2, 2], [0, 2, 0],
    # one beyond
    [0, 1, 3], [3, 1, 2], [0, 1, -1], [-3, -2, -1], [1, 2, 3], [0, 1, GREAT], [0, 1, -GREAT],
    # no numbers
    [False, True, 2], [0, True, 2], [False, 1, 2], [0.0, 1, 2], [0, 1, 2.0], ["0", "1", "2"], [0, 1, None],
    [[0], [1], [2]], [0, 1, [2]], [0, 1, (2,)], [0, 1, {}], [[0, 1, 2]],
    # no list
    (0, 1, 2), "012", b"\x00\x01\x02", range(3), {0, 1, 2}, {0: 0, 1: 1, 2: 2}, None, 3, True, iter([0, 1, 2]),
    object(),
]

WRONG_COUNTS = [0, -1, -GREAT, True, False, 1.0, 2.5, "1", b"1", None, [1], (1,), [], {}, {1}, object()]

WRONG_BALLOTS = [
    # no pair
    [[0, 1, 2], 1], ([0, 1, 2],), ([0, 1, 2], 1, 1), ([0, 1, 2], 1, None), (), [], [0, 1, 2], None, 1, "ab", b"ab",
    {0: 1}, True, object(), {"order": [0, 1, 2], "many": 1},
    # in the other turn
    (1, [0, 1, 2]),
    # a pair within one
    (([0, 1, 2], 1), 1),
]

NO_LISTS = [
    None, 0, 1, True, False, "", "ab", b"", (), {}, set(), range(0), 1.5, object(), iter([]),
    (([0, 1, 2], 1),), ([0, 1, 2], 1), {0: ([0, 1, 2], 1)}, iter([([0, 1, 2], 1)]),
]

WRONG_TABLES = [
    # no list
    None, 0, 1, True, False, "", "abc", b"", b"a", 1.5, (), {}, set(), range(0), range(1), object(), iter([[0]]), int,
    ([0],), ([0, 1], [-1, 0]), ((0,),), {0: [0]}, {0: {0: 0}}, "0", "[[0]]",
    # no rows
    [], [0], [None], [True], ["0"], [""], [b"\x00"], [(0,)], [{0: 0}], [{0}], [range(1)], [0.0], [object()],
    [(0, 1), (-1, 0)], [[0, 1], (-1, 0)], [(0, 1), [-1, 0]], [[0, 1], None], [[0, 1], -1], [0, 0], [[0, 1], "-1"],
    [[0, 1], iter([-1, 0])], [b"\x00\x00", b"\x00\x00"], ["ab", "ab"],
    # too many
    [[0] * 21 for row in range(21)], [[0] * 22 for row in range(22)], [[0] * 20 for row in range(21)],
    [[0] * 21 for row in range(20)],
    # rows too short or too long
    [[]], [[], []], [[0, 0]], [[0], [0]], [[0, 0], [0]], [[0], [0, 0]], [[0, 0], [0, 0, 0]], [[0, 0, 0], [0, 0]],
    [[0, 0]] * 3, [[0, 0, 0]] * 2, [[0, 0, 0], [0, 0, 0], [0, 0]], [[0, 0, 0], [0, 0, 0], []],
    [[0, 0, 0], [0, 0, 0], [0, 0, 0, 0]], [[0, 1, 2], [-1, 0], [-2]], [[0], [1, 0], [1, 1, 0]],
    # no numbers
    [[False]], [[True]], [[None]], [["0"]], [[""]], [[0.0]], [[-0.0]], [[float("nan")]], [[b"0"]], [[[]]], [[[0]]],
    [[(0,)]], [[{}]], [[0j]], [[object()]], [[0, True], [-1, 0]], [[0, -1], [True, 0]], [[0, False], [False, 0]],
    [[0, False], [0, 0]], [[0, 0], [False, 0]], [[False, 0], [0, 0]], [[0, 0], [0, False]], [[0, 1.0], [-1.0, 0]],
    [[0, 1.0], [-1, 0]], [[0, 1], [-1.0, 0]], [[0, "1"], ["-1", 0]], [[0, None], [None, 0]], [[0, 0], [None, 0]],
    [[0, 0], [0, None]], [[0, 1], [-1, "0"]], [[0, [1]], [[-1], 0]], [[0, (1,)], [(-1,), 0]], [["", ""], ["", ""]],
    [[0, float("inf")], [float("-inf"), 0]], [[0, 0, 0], [0, 0, 0], [0, 0, False]],
    [[0, 1, 2], [-1, 0, 3], [-2, -3, None]],
    # an own number that is not 0
    [[1]], [[-1]], [[GREAT]], [[-GREAT]], [[1, 0], [0, 0]], [[0, 0], [0, 1]], [[0, 2], [-2, -2]], [[1, 2], [-2, -1]],
    [[0, 1, 2], [-1, 0, 3], [-2, -3, 4]], [[0, 1, 2], [-1, GREAT, 3], [-2, -3, 0]],
    [[-1, 1, 2], [-1, 0, 3], [-2, -3, 0]],
    # two numbers that are not turned about
    [[0, 1], [1, 0]], [[0, -1], [-1, 0]], [[0, 1], [0, 0]], [[0, 0], [1, 0]], [[0, 1], [-2, 0]], [[0, 2], [-1, 0]],
    [[0, GREAT], [GREAT, 0]], [[0, GREAT], [-GREAT - 1, 0]], [[0, GREAT], [-GREAT + 1, 0]], [[0, GREAT], [0, 0]],
    [[0, 1, 2], [-1, 0, 3], [-2, 3, 0]], [[0, 1, 2], [-1, 0, 3], [2, -3, 0]], [[0, 1, 2], [1, 0, 3], [-2, -3, 0]],
    [[0, 1, 2], [-1, 0, 3], [-2, -4, 0]], [[0, 1, 2], [-1, 0, 3], [-3, -3, 0]], [[0, 1, 2], [-1, 0, 5], [-2, -3, 0]],
    [[0, 1, -1], [-1, 0, 1], [-1, 1, 0]],
    # a table within a list
    [[[0]]], [[[0, 1], [-1, 0]]],
]


def twenty_but(row, place, number):
    """A table of 20 candidates, but for one number."""
    table = [[0] * 20 for who in range(20)]
    table[row][place] = number
    return table


WRONG_TABLES += [
    twenty_but(19, 19, 1), twenty_but(0, 0, 1), twenty_but(19, 0, 1), twenty_but(0, 19, 1), twenty_but(19, 18, -GREAT),
    twenty_but(18, 19, None), twenty_but(19, 19, False), twenty_but(7, 12, "0"), twenty_but(12, 7, [0]),
]
