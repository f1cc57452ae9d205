"""The rules of chapter 04 once more, written plainly and apart from the program, by the bits of keys as text."""

import functools

from tests.reference import digest

KEYS = 2 ** 32


@functools.cache
def bits(key):
    return format(key, "032b")


def within(pairs, prefix):
    return {key: pairs[key] for key in sorted(pairs) if bits(key).startswith(prefix)}


def source(width, pairs, prefix=""):
    """The input of the node of all entries whose keys begin so."""
    return source_of(width, tuple(pairs.items()), prefix)


@functools.lru_cache(200000)
def source_of(width, entries, prefix):
    inside = within(dict(entries), prefix)
    if not inside:
        return (2, ())
    if len(inside) == 1:
        return (2, *inside.items())
    numbers = []
    for bit in "01":
        part = within(inside, prefix + bit)
        numbers += [len(part), digest(width, *source(width, part, prefix + bit))]
    return (3, tuple(numbers))


def root(width, pairs):
    return digest(width, *source(width, pairs))


def proof(width, pairs, key):
    return proof_of(width, tuple(pairs.items()), key)


@functools.lru_cache(20000)
def proof_of(width, entries, key):
    depth, told, pairs = 0, [], dict(entries)
    while len(within(pairs, bits(key)[:depth])) > 1:
        beside = bits(key)[:depth] + "10"[int(bits(key)[depth])]
        told += [len(within(pairs, beside)), digest(width, *source(width, pairs, beside))]
        depth += 1
    end = within(pairs, bits(key)[:depth])
    return (depth, *told, *[number for pair in end.items() for number in pair])


def inputs(width, key, told):
    """The inputs from the root down that a proof of any integers tells; None if it has another shape."""
    if key not in range(KEYS) or not told or told[0] not in range(33):
        return None
    depth, rest = told[0], told[1:]
    if len(rest) - 2 * depth not in (0, 2):
        return None
    others, end = list(zip(rest[:2 * depth:2], rest[1:2 * depth:2])), tuple(rest[2 * depth:])
    if any(many < 0 or number not in range(2 ** width) for many, number in others):
        return None
    if end and (end[0] not in range(KEYS) or end[1] < 0 or bits(end[0])[:depth] != bits(key)[:depth]):
        return None
    row, many = [(2, end)], 1 if end else 0
    for bit, other in reversed(list(zip(bits(key), others))):
        mine = (many, digest(width, *row[0]))
        row.insert(0, (3, mine + other if bit == "0" else other + mine))
        many += other[0]
    return row


def accepted(width, top, key, told):
    row = inputs(width, key, told)
    return row is not None and digest(width, *row[0]) == top


def shown(width, top, key, told):
    if not accepted(width, top, key, told):
        return None
    end = inputs(width, key, told)[-1][1]
    return ("value", end[1]) if end and end[0] == key else ("absent",)


def changed(width, key, value, told):
    """The root behind a change, by an accepted proof: each node is told by its number of entries and its digest."""
    depth, end = told[0], inputs(width, key, told)[-1][1]
    entries = dict([end]) if end else {}
    if value is None:
        entries.pop(key, None)
    elif set(entries) <= {key}:
        entries = {key: value}
    else:
        entries[key] = value
    node = (len(entries), digest(width, *source(width, entries, bits(key)[:depth])))
    for level in range(depth, 0, -1):
        other = (told[2 * level - 1], told[2 * level])
        pair = [node, other] if bits(key)[level - 1] == "0" else [other, node]
        many = pair[0][0] + pair[1][0]
        if many == 0:
            node = (0, digest(width, 2, []))
        elif many == 1:
            node, = [part for part in pair if part[0] == 1]
        else:
            node = (many, digest(width, 3, list(pair[0] + pair[1])))
    return node[1]


def bounds(prefix):
    return int(prefix.ljust(32, "0"), 2), int(prefix.ljust(32, "1"), 2)


def touches(low, high, prefix):
    first, last = bounds(prefix)
    return first <= high and low <= last


def range_proof(width, pairs, low, high, prefix=""):
    inside = within(pairs, prefix)
    if not touches(low, high, prefix):
        return (3, len(inside), digest(width, *source(width, pairs, prefix)))
    if not inside:
        return (0,)
    if len(inside) == 1:
        return (1, *list(inside.items())[0])
    return (2, *range_proof(width, pairs, low, high, prefix + "0"), *range_proof(width, pairs, low, high, prefix + "1"))


class Refused(Exception):
    pass


def read_range(width, low, high, told, prefix=""):
    """Rows (prefix, number of entries, digest, input or None) of the told nodes, in their order, and the rest."""
    if not told or len(prefix) > 32:
        raise Refused
    word, rest = told[0], told[1:]
    if word == 2:
        left, rest = read_range(width, low, high, rest, prefix + "0")
        right, rest = read_range(width, low, high, rest, prefix + "1")
        node = (3, (*left[0][1:3], *right[0][1:3]))
        return [(prefix, left[0][1] + right[0][1], digest(width, *node), node)] + left + right, rest
    if word == 0:
        return [(prefix, 0, digest(width, 2, []), (2, ()))], rest
    if word not in (1, 3) or len(rest) < 2:
        raise Refused
    one, two, rest = rest[0], rest[1], rest[2:]
    if word == 1:
        if one not in range(KEYS) or not bits(one).startswith(prefix) or two < 0:
            raise Refused
        return [(prefix, 1, digest(width, 2, [one, two]), (2, (one, two)))], rest
    if touches(low, high, prefix) or one < 0 or two not in range(2 ** width):
        raise Refused
    return [(prefix, one, two, None)], rest


def range_rows(width, top, low, high, told):
    """The rows of an accepted proof, or None."""
    try:
        rows, rest = read_range(width, low, high, tuple(told))
    except Refused:
        return None
    return rows if not rest and rows[0][2] == top else None


def range_shown(width, top, low, high, told):
    rows = range_rows(width, top, low, high, told)
    if rows is None:
        return None
    entries = [node[1] for _, _, _, node in rows if node is not None and node[0] == 2 and node[1]]
    return {key: value for key, value in entries if low <= key <= high}


def range_difference(width, pairs, rows):
    """The collision of the first told node that is otherwise in the map, or None."""
    for prefix, _, _, told in rows:
        if told is not None and told != source(width, pairs, prefix):
            return ("collision", source(width, pairs, prefix), told)
    return None
