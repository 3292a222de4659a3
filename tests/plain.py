"""A slow and plain reading of what coders and chains write, for the tests alone.

Nothing here keeps a state: each coder is read off the whole row, as its words say.
"""

import random
from functools import cache
from itertools import product

from rowcoders.coders import family

SIZES = (2, 3)
ALL_CHAINS = tuple((k, chain) for k in SIZES for chain in family(k))


def all_rows(k, many):
    return [list(signs) for signs in product(range(k), repeat=many)]


def rows_up_to(k, many):
    return [row for length in range(many + 1) for row in all_rows(k, length)]


def random_row(chance, k, length):
    """A row with runs of the same signs, which are long enough for counts."""
    row = []
    while len(row) < length:
        row += [chance.randrange(k)] * chance.choice((1, 1, 2, 3, 4, 5, 9))
    return row[:length]


def random_rows(k, many):
    chance = random.Random(k)
    rows = [[], [0] * 40, [k - 1] * 40, ([0, 0, 0, 1] * 10), [chance.randrange(k) for _ in range(40)]]
    return rows + [random_row(chance, k, chance.randrange(41)) for _ in range(many)]


def joined(lists):
    return [sign for signs in lists for sign in signs]


def order_behind(k, signs):
    """The list of "front" and "unfront": the latest first, then the others, ascending."""
    latest = list(dict.fromkeys(reversed(signs)))
    return latest + [sign for sign in range(k) if sign not in latest]


def unfront_along(k, signs):
    told = []
    for index in signs:
        told.append(order_behind(k, told)[index])
    return [[sign] for sign in told]


def counting_along(k, signs, begins_count):
    """What "twos" and the flags write: begins_count(anew, at) tells where a count begins."""
    written = [[] for _ in signs]
    end = []
    anew = at = 0
    while at < len(signs):
        written[at].append(signs[at])
        count = 0
        if begins_count(anew, at):
            behind = signs[at + 1:at + k]
            while count < len(behind) and behind[count] == signs[at]:
                count += 1
            if count == k - 1:
                written[at + count].append(count)
            elif at + 1 + count == len(signs):
                end.append(count)
            else:
                written[at + 1 + count].append(count)
            anew = at + 1 + count
        at += 1 + count
    return written, end


def coder_along(k, coder, signs):
    """The list of what is written at each sign, and what is written at the end."""
    places = range(len(signs))
    if coder == "same":
        return [[sign] for sign in signs], []
    if coder == "double":
        return [[sign, sign] for sign in signs], []
    if coder == "halves":
        return [[signs[at]][at % 2:] for at in places], []
    if coder == "drops":
        return [[] if signs[:at][-1:] == [signs[at]] else [signs[at]] for at in places], []
    if coder == "delta":
        return [[(signs[at] - ([0] + signs)[at]) % k] for at in places], []
    if coder == "sums":
        return [[sum(signs[:at + 1]) % k] for at in places], []
    if coder == "front":
        return [[order_behind(k, signs[:at]).index(signs[at])] for at in places], []
    if coder == "unfront":
        return unfront_along(k, signs), []
    if coder == "twos":
        return counting_along(k, signs, lambda anew, at: at > anew and signs[at] == signs[at - 1])
    flag = int(coder[len("flags"):])
    return counting_along(k, signs, lambda anew, at: signs[at] == flag)


def chain_along(k, chain, signs):
    written, end = coder_along(k, chain[0], signs)
    for coder in chain[1:]:
        further, own_end = coder_along(k, coder, joined(written) + end)
        parts = []
        for read in written + [end]:
            parts.append(joined(further[:len(read)]))
            further = further[len(read):]
        written, end = parts[:-1], parts[-1] + own_end
    return written, end


def plain_code(k, chain, signs):
    written, end = chain_along(k, chain, signs)
    return joined(written) + end


# So many signs have the rows that are listed, at most.
LISTED = {2: 7, 3: 5}


@cache
def listed_rows(k):
    return [tuple(row) for row in rows_up_to(k, LISTED[k])]


@cache
def listed_codes(k, chain):
    """The codes of the listed rows, in the order of the rows."""
    return [tuple(plain_code(k, chain, list(row))) for row in listed_rows(k)]
