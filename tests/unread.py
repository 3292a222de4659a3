"""A slow and plain way back from codes to rows, for the tests alone.

It knows the chains whose last coder is neither "halves" nor "drops": there each code is written
for one row at most, and this one is read off the code as the words of 0.5 say.
"""

from math import comb

from rowcoders.coders import family
from tests.plain import SIZES, joined, order_behind, unfront_along

READABLE = tuple((k, chain) for k in SIZES for chain in family(k) if chain[-1] not in ("halves", "drops"))


def unread(k, coder, code):
    """The only row with this code by a coder that is neither "halves" nor "drops", or None."""
    places = range(len(code))
    if coder == "same":
        return list(code)
    if coder == "double":
        return code[::2] if code[::2] == code[1::2] else None
    if coder == "delta":
        return [sum(code[:at + 1]) % k for at in places]
    if coder == "sums":
        return [(code[at] - ([0] + code)[at]) % k for at in places]
    if coder == "front":
        return joined(unfront_along(k, code))
    if coder == "unfront":
        return [order_behind(k, code[:at]).index(code[at]) for at in places]
    if coder == "twos":
        return unread_counts(k, code, lambda before, sign: sign == before)
    flag = int(coder[len("flags"):])
    return unread_counts(k, code, lambda before, sign: sign == flag)


def unread_counts(k, code, is_counted):
    row, before, rest = [], None, list(code)
    while rest:
        sign = rest.pop(0)
        row.append(sign)
        if not is_counted(before, sign):
            before = sign
        elif not rest:
            return None
        else:
            count = rest.pop(0)
            row += [sign] * count
            before = None
            if count < k - 1 and rest[:1] == [sign]:
                return None
    return row


def word_behind(k, chain, code):
    """What the first coder wrote, or None where no row has the code by the last one."""
    return list(code) if len(chain) == 1 else unread(k, chain[1], list(code))


def has_equal_neighbours(word):
    return any(one == other for one, other in zip(word, word[1:]))


def plain_first_row(k, chain, code):
    """The first of the shortest rows with a code, or None, by a chain that is READABLE."""
    word = word_behind(k, chain, code)
    if word is None:
        return None
    if len(chain) == 1 or chain[0] not in ("halves", "drops"):
        return unread(k, chain[0], word)
    if chain[0] == "halves":
        return joined([[sign, 0] for sign in word])[:-1]
    return None if has_equal_neighbours(word) else word


def plain_count(k, chain, code, many):
    """How many rows of so many signs have a code, by a chain that is READABLE."""
    row = plain_first_row(k, chain, code)
    if row is None:
        return 0
    if len(chain) == 1 or chain[0] not in ("halves", "drops"):
        return int(len(row) == many)
    if chain[0] == "halves":
        length = (len(row) + 1) // 2
        return k ** (many // 2) if (many + 1) // 2 == length else 0
    if many == 0 or not row:
        return int(many == len(row))
    return comb(many - 1, len(row) - 1)
