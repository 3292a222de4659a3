"""Wrong arguments of every kind that the document names."""

from copy import deepcopy


def nested(inmost, deep, wrap):
    for _ in range(deep):
        inmost = wrap(inmost)
    return inmost


def in_list(value):
    return [value]


def in_tuple(value):
    return (value,)


ANYTHING = (
    None, True, False, "", "2", "same", "0", "flags0", -1, -2, 10 ** 30, -10 ** 30,
    [None], [True], [False, 0], [0, True], ["0"], [""], [[0]], [[]], [()], [(0,)], [0, None], [0, [1]], [-1],
    (True,), (False,), (None,), ("",), (0,), (0, 1), ((),), ([],), ("same", None), ("same", True), ("same", 0),
    (["same"],), (("same",),), ("same", ("same",)), [["same"]], ["same"], ["same", "same"],
    nested(0, 8, in_list), nested(0, 8, in_tuple), nested("same", 8, in_tuple), nested("same", 8, in_list),
    nested([], 7, in_tuple), nested((), 7, in_list), [nested(True, 7, in_tuple), "x", None],
)

WRONG_SIZES = ANYTHING + (0, 1, 4, 5, 23, [2], (3,), [], (), "3", [2, 3])

WRONG_CHAINS = ANYTHING + (
    0, 2, [], (), ("same", "same", "same"), ("same",) * 4, ("Same",), ("same ",), (" same",), ("none",),
    ("same", "none"), ("none", "same"), ("flags",), ("flags3",), ("flags-1",), ("flags00",), ("same", "flags3"),
    ("s", "a"), ("same|delta",), "same|delta", "sa", (2,), ("2",), (2, "same"),
)

WRONG_ROWS = ANYTHING + (0, 1, 2, (), (0,) * 3, "01", [0] * 41, [1] * 41, [0] * 100, [0, 1, 3], [3], [0, -1], [0] * 40 + [""])

WRONG_CODES = ANYTHING + (
    0, 1, 2, (), (0,) * 3, "01", [0] * 201, [1] * 201, [0] * 1000, [0, 1, 3], [3], [0, -1],
    [0] * 199 + [""], [0] * 199 + [True], [0] * 200 + [None], [[0] * 200],
)

# As chains of hidden.py: not a tuple, none, too many, not ascending, one twice, or no chains.
WRONG_CHAIN_TUPLES = tuple(value for value in ANYTHING if value != (("same",),)) + (
    0, 2, [], (), ("same", "delta"), [("same",)], [("delta",), ("same",)], (["delta"],), (["delta"], ["same"]),
    (("same",), ("same",)), (("same",), ("delta",)), (("delta",), ("same",), ("same",)),
    (("delta",), ("twos",), ("same",)), (("twos",), ("delta", "same")), (("delta", "same"), ("delta",)),
    (("delta",), ("double",), ("drops",), ("front",)), (("delta",),) * 4,
    (("delta",), None), (("delta",), True), (None, ("delta",)), (("delta",), "same"), (("delta",), ["same"]),
    (("delta",), ()), ((), ("delta",)), (("delta",), ("none",)), (("delta",), ("same", True)), ("delta|same",),
    (("delta", "same", "twos"),), ((("delta",),),), (("delta",), ("flags3",)), (("",), ("delta",)),
)

WRONG_WRITTEN = tuple(value for value in ANYTHING if value not in ([[0]], [[]])) + (
    0, 1, (), ([0],), ([],), [0], [0, 0], [[0], 0], [0, [0]], [[0], None], [[0], (0,)], [(0,), [0]], [[0], "0"],
    [[True]], [[0, False]], [[0], [True]], [[None]], [["0"]], [[[0]]], [[[]]], [[()]], [[-1]], [[3]], [[0], [1, 3]],
    [[]] * 41, [[0]] * 41, [[0]] * 100, [[0]] * 40 + [None], [[0]] * 39 + [[True]], "0", "[[0]]",
)

WRONG_SIGNS = ANYTHING + (3, 4, 10, [0], (0,), [1], (), [], "1", "k", [[0]], ((1,),))

NO_TEXTS = tuple(value for value in ANYTHING if not isinstance(value, str)) + (0, 1, 2, [], (), ["0", "1"], ("0", "1"))

# Texts with figures and letters of other scripts are written by their numbers.
WRONG_ROW_TEXTS = NO_TEXTS + (
    "3", "9", "03", "x", "O", "l", " ", "0 ", " 0", "0 1", "0\n", "\n", "\t0", "+1", "-1", "0,1", "0|1", "0.", "0x1",
    "1e1", "0_1", "_", "\0", "[]", "[0]", "None", "True", "same", "''", "0" * 41, "1" * 200, "0" * 40 + " ",
    "\u0660", "\u0967", "\uff10", "\u00b2", "\u2070", "\u2460", "\u4e00", "\u06f1", "0\u200b", "\u00a0", "0\u0301",
    "\U0001d7ce",
)

WRONG_CHAIN_TEXTS = NO_TEXTS + (
    "", "|", "||", "same|", "|same", "same||same", "|same|", "same|same|same", "same|same|", "Same", "SAME", "sAme",
    " same", "same ", "same |same", "same| same", "same | same", "same\n", "\nsame", "same;same", "same,same",
    "samesame", "same/same", "sam", "ame", "s", " ", "flags", "flags3", "flags00", "flags-1", "flags 0", "flags|0", "none",
    "same|none", "none|same", "('same',)", "\"same\"", "same\0", "0", "2",
    "\u017fame", "s\u0430me", "flags\u0660", "flags\u00b2", "flags\uff10", "same\u200b", "same\u00a0", "same\u2223same",
    "same\uff5csame", "tw\u03bfs",
)

WRONG_COUNTS = ANYTHING + ([], (), [0], [3], (3,), "3", 1000)


def wrong_chains(k):
    return WRONG_CHAINS if k == 3 else WRONG_CHAINS + (("flags2",), ("same", "flags2"), ("flags2", "same"))


def wrong_rows(k):
    return WRONG_ROWS if k == 3 else WRONG_ROWS + ([2], [0, 2], [0] * 39 + [2])


def wrong_codes(k):
    return WRONG_CODES if k == 3 else WRONG_CODES + ([2], [0, 2], [0] * 199 + [2])


def wrong_chain_tuples(k):
    if k == 3:
        return WRONG_CHAIN_TUPLES
    return WRONG_CHAIN_TUPLES + (
        (("flags2",),), (("delta",), ("flags2",)), (("delta",), ("delta", "flags2"), ("same",)),
    )


def wrong_written(k):
    return WRONG_WRITTEN if k == 3 else WRONG_WRITTEN + ([[2]], [[0], [0, 2]], [[0]] * 39 + [[2]])


def wrong_signs(k):
    return WRONG_SIGNS + (k,)


def wrong_row_texts(k):
    return WRONG_ROW_TEXTS if k == 3 else WRONG_ROW_TEXTS + ("2", "02", "0" * 39 + "2")


def wrong_chain_texts(k):
    return WRONG_CHAIN_TEXTS if k == 3 else WRONG_CHAIN_TEXTS + ("flags2", "same|flags2", "flags2|same")


def wrong_counts(greatest):
    return WRONG_COUNTS + (greatest + 1,)


def assert_first_error(test, function, good, wrong):
    """Spoil the arguments one by one, and then several at once: the first of them decides.

    wrong has, for each argument in the order in which its error is listed, a tuple of the
    place of the argument, the error and the wrong values.
    """
    for rank, (place, error, values) in enumerate(wrong):
        for at, value in enumerate(values):
            spoilt = list(good)
            spoilt[place] = value
            assert_raises_just(test, function, spoilt, error)
            for other_place, _, others in wrong[rank + 1:]:
                spoilt[other_place] = others[at % len(others)]
                assert_raises_just(test, function, spoilt, error)


def assert_raises_just(test, function, arguments, error):
    before = deepcopy(arguments)
    with test.assertRaises(error, msg=f"{function.__name__}{tuple(arguments)!r}") as caught:
        function(*arguments)
    test.assertIs(caught.exception.__class__, error)
    test.assertEqual(repr(arguments), repr(before))
