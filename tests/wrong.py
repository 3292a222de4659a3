"""Wrong arguments of every kind that the document names."""

from copy import deepcopy


def nested(inmost, deep, wrap):
    for _ in range(deep):
        inmost = wrap(inmost)
    return inmost


def in_list(value):
    return [value]


def in_tuple(value):
    return (value,)


ANYTHING = (
    None, True, False, "", "2", "same", "0", "flags0", -1, -2, 10 ** 30, -10 ** 30,
    [None], [True], [False, 0], [0, True], ["0"], [""], [[0]], [[]], [()], [(0,)], [0, None], [0, [1]], [-1],
    (True,), (False,), (None,), ("",), (0,), (0, 1), ((),), ([],), ("same", None), ("same", True), ("same", 0),
    (["same"],), (("same",),), ("same", ("same",)), [["same"]], ["same"], ["same", "same"],
    nested(0, 8, in_list), nested(0, 8, in_tuple), nested("same", 8, in_tuple), nested("same", 8, in_list),
    nested([], 7, in_tuple), nested((), 7, in_list), [nested(True, 7, in_tuple), "x", None],
)

WRONG_SIZES = ANYTHING + (0, 1, 4, 5, 23, [2], (3,), [], (), "3", [2, 3])

WRONG_CHAINS = ANYTHING + (
    0, 2, [], (), ("same", "same", "same"), ("same",) * 4, ("Same",), ("same ",), (" same",), ("none",),
    ("same", "none"), ("none", "same"), ("flags",), ("flags3",), ("flags-1",), ("flags00",), ("same", "flags3"),
    ("s", "a"), ("same|delta",), "same|delta", "sa", (2,), ("2",), (2, "same"),
)

WRONG_ROWS = ANYTHING + (0, 1, 2, (), (0,) * 3, "01", [0] * 41, [1] * 41, [0] * 100, [0, 1, 3], [3], [0, -1], [0] * 40 + [""])

WRONG_CODES = ANYTHING + (
    0, 1, 2, (), (0,) * 3, "01", [0] * 201, [1] * 201, [0] * 1000, [0, 1, 3], [3], [0, -1],
    [0] * 199 + [""], [0] * 199 + [True], [0] * 200 + [None], [[0] * 200],
)

WRONG_COUNTS = ANYTHING + ([], (), [0], [3], (3,), "3", 1000)


def wrong_chains(k):
    return WRONG_CHAINS if k == 3 else WRONG_CHAINS + (("flags2",), ("same", "flags2"), ("flags2", "same"))


def wrong_rows(k):
    return WRONG_ROWS if k == 3 else WRONG_ROWS + ([2], [0, 2], [0] * 39 + [2])


def wrong_codes(k):
    return WRONG_CODES if k == 3 else WRONG_CODES + ([2], [0, 2], [0] * 199 + [2])


def wrong_counts(greatest):
    return WRONG_COUNTS + (greatest + 1,)


def assert_first_error(test, function, good, wrong):
    """Spoil the arguments one by one, and then several at once: the first of them decides.

    wrong has, for each argument in the order in which its error is listed, a tuple of the
    place of the argument, the error and the wrong values.
    """
    for rank, (place, error, values) in enumerate(wrong):
        for at, value in enumerate(values):
            spoilt = list(good)
            spoilt[place] = value
            assert_raises_just(test, function, spoilt, error)
            for other_place, _, others in wrong[rank + 1:]:
                spoilt[other_place] = others[at % len(others)]
                assert_raises_just(test, function, spoilt, error)


def assert_raises_just(test, function, arguments, error):
    before = deepcopy(arguments)
    with test.assertRaises(error, msg=f"{function.__name__}{tuple(arguments)!r}") as caught:
        function(*arguments)
    test.assertIs(caught.exception.__class__, error)
    test.assertEqual(repr(arguments), repr(before))
