"""Every call of the interface, with arguments of each kind: good ones drawn, and wrong ones."""

from rowcoders import back, coders, desk, hidden, lengths, likeness, naive, rates, reading, texts, twins
from rowcoders.errors import (
    InvalidChain, InvalidChains, InvalidCode, InvalidCount, InvalidRow, InvalidSign, InvalidSize, InvalidWritten,
    ParseError,
)
from tests.plain import chain_along, joined, random_row
from tests.wrong import (
    WRONG_SIZES, wrong_chain_texts, wrong_chain_tuples, wrong_chains, wrong_codes, wrong_counts, wrong_row_texts,
    wrong_rows, wrong_signs, wrong_written,
)

NAMES = ("delta", "double", "drops", "flags0", "flags1", "flags2", "front", "halves", "same", "sums", "twos", "unfront")


def is_plain_sign(k, value):
    return value.__class__ is int and 0 <= value < k


def is_plain_row(k, value, longest=40):
    return value.__class__ is list and len(value) <= longest and all(is_plain_sign(k, sign) for sign in value)


def is_plain_chain(k, value):
    return value.__class__ is tuple and 1 <= len(value) <= 2 and all(
        name.__class__ is str and name in NAMES and (k == 3 or name != "flags2") for name in value
    )


def is_plain_chains(k, value):
    if value.__class__ is not tuple or not 1 <= len(value) <= 3:
        return False
    if not all(is_plain_chain(k, chain) for chain in value):
        return False
    return all(one < other for one, other in zip(value, value[1:]))


def is_plain_written(k, value):
    if value.__class__ is not list or len(value) > 40:
        return False
    return all(is_plain_row(k, signs, 10 ** 6) for signs in value)


def is_plain_count(greatest):
    return lambda k, value: value.__class__ is int and 0 <= value <= greatest


def is_plain_row_text(k, value):
    return value.__class__ is str and len(value) <= 40 and all(sign in "012"[:k] for sign in value)


def is_plain_chain_text(k, value):
    return value.__class__ is str and is_plain_chain(k, tuple(value.split("|")))


# For each kind of argument: its error, the wrong values for k, and whether a value is of this kind.
KINDS = {
    "chain": (InvalidChain, wrong_chains, is_plain_chain),
    "chains": (InvalidChains, wrong_chain_tuples, is_plain_chains),
    "row": (InvalidRow, wrong_rows, is_plain_row),
    "row of 39": (InvalidRow, lambda k: wrong_rows(k) + ([0] * 40,), lambda k, value: is_plain_row(k, value, 39)),
    "code": (InvalidCode, wrong_codes, lambda k, value: is_plain_row(k, value, 200)),
    "written": (InvalidWritten, wrong_written, is_plain_written),
    "sign": (InvalidSign, wrong_signs, is_plain_sign),
    "many": (InvalidCount, lambda k: wrong_counts(40), is_plain_count(40)),
    "length": (InvalidCount, lambda k: wrong_counts(200), is_plain_count(200)),
    "few": (InvalidCount, lambda k: wrong_counts(6), is_plain_count(6)),
    "row text": (ParseError, wrong_row_texts, is_plain_row_text),
    "chain text": (ParseError, wrong_chain_texts, is_plain_chain_text),
}


def put_on_desk(k, chain, row, sign):
    """What a desk writes at a sign behind a row."""
    return desk_behind(k, chain, row).put(sign)


def row_of_desk(k, chain, row):
    return desk_behind(k, chain, row).row()


def written_by_desk(k, chain, row):
    return desk_behind(k, chain, row).written()


def code_of_desk(k, chain, row):
    return desk_behind(k, chain, row).code()


def desk_behind(k, chain, row):
    told = desk.Desk(k, chain)
    for sign in row:
        told.put(sign)
    return told


# The functions, with the kinds of their arguments behind k.
FUNCTIONS = (
    (coders.coders, ()),
    (coders.family, ()),
    (coders.code_of, ("chain", "row")),
    (coders.written_along, ("chain", "row")),
    (rates.greatest_rate, ("chain",)),
    (rates.least_rate, ("chain",)),
    (rates.longest_row, ("chain",)),
    (rates.shortest_row, ("chain",)),
    (lengths.length_range, ("chain", "many")),
    (lengths.count_lengths, ("chain", "many")),
    (lengths.row_of_length, ("chain", "many", "length")),
    (likeness.parting_row, ("chain", "chain")),
    (likeness.same_as, ("chain",)),
    (likeness.failing_row, ("chain", "chain")),
    (twins.twins, ("chain",)),
    (back.first_row, ("chain", "code")),
    (back.count_rows, ("chain", "code", "many")),
    (reading.could_code, ("row", "code")),
    (reading.could_write, ("code",)),
    (hidden.fewest_signs, ("chains",)),
    (hidden.best_sign, ("chains", "row of 39", "written")),
    (desk.Desk, ("chain",)),
    (texts.format_row, ("row",)),
    (texts.parse_row, ("row text",)),
    (texts.format_chain, ("chain",)),
    (texts.parse_chain, ("chain text",)),
    (naive.naive_twins, ("chain", "few")),
    (naive.naive_parting, ("chain", "chain", "few")),
)

# What a desk tells, as functions: these are asked with good arguments alone.
DESK_CALLS = (
    (put_on_desk, ("chain", "row of 39", "sign")),
    (row_of_desk, ("chain", "row")),
    (written_by_desk, ("chain", "row")),
    (code_of_desk, ("chain", "row")),
)

# The sections of these say where they return None.
MAY_BE_NONE = (
    lengths.row_of_length, likeness.parting_row, likeness.failing_row, twins.twins, back.first_row, hidden.best_sign,
    naive.naive_twins, naive.naive_parting,
)


def wrong_arguments(k, kinds):
    """What assert_first_error takes: place, error and wrong values of each argument."""
    wrong = [(0, InvalidSize, WRONG_SIZES)]
    for place, kind in enumerate(kinds, start=1):
        error, values, _ = KINDS[kind]
        wrong.append((place, error, values(k)))
    return wrong


def good_arguments(chance, k, kinds):
    """Drawn arguments that belong to each other: the code is the row's, what is written is by a chain of the chains."""
    names = coders.family(k)
    chain, other = chance.choice(names), chance.choice(names)
    row = random_row(chance, k, chance.choice((0, 1, 2, 5, 17, 38, 39)))
    chains = tuple(sorted({chain, other, chance.choice(names)}))
    written, end = chain_along(k, chain, row)
    drawn = {
        "chain": [chain, other],
        "chains": [chains],
        "row": [row],
        "row of 39": [row],
        "code": [joined(written) + end],
        "written": [written],
        "sign": [chance.randrange(k)],
        "many": [len(row)],
        "length": [len(joined(written) + end)],
        "few": [chance.randrange(7)],
        "row text": ["".join(str(sign) for sign in row)],
        "chain text": ["|".join(chain)],
    }
    return [k] + [drawn[kind].pop(0) for kind in kinds]
