"""The rules of chapter 03 once more, written plainly and apart from the program."""

from tests.reference import digest


def half_of(size):
    half = 1
    while half * 2 < size:
        half *= 2
    return half


def root(width, items):
    if len(items) < 2:
        return digest(width, 0, list(items))
    half = half_of(len(items))
    return digest(width, 1, [len(items), root(width, items[:half]), root(width, items[half:])])


def beside(width, items, k):
    """The digests beside the way to an item, from the root on."""
    if len(items) < 2:
        return []
    half = half_of(len(items))
    if k < half:
        return [root(width, items[half:])] + beside(width, items[:half], k)
    return [root(width, items[:half])] + beside(width, items[half:], k - half)


def proof(width, items, k):
    return tuple(reversed(beside(width, items, k)))


def growth(width, items, old):
    """The proof of a growth: the nodes by the ranges of their items, first to last."""
    found = []

    def take(first, last):
        if last <= old or first >= old:
            found.append(root(width, items[first:last]))
            return
        half = half_of(last - first)
        take(first, first + half)
        take(first + half, last)

    if items:
        take(0, len(items))
    return tuple(found)


def made(width, size, k, item, told):
    """The inputs from the root down that a proof tells (None if its length is not that of the way)."""
    if size == 1:
        return None if told else [(0, (item,))]
    if not told:
        return None
    half, other = half_of(size), told[-1]
    if k < half:
        below = made(width, half, k, item, told[:-1])
        return below and [(1, (size, digest(width, *below[0]), other))] + below
    below = made(width, size - half, k - half, item, told[:-1])
    return below and [(1, (size, other, digest(width, *below[0])))] + below


def are_digests(width, told):
    return all(0 <= number < 2 ** width for number in told)


def accepted(width, top, count, k, item, told):
    if k < 0 or k >= count or item < 0 or not are_digests(width, told):
        return False
    inputs = made(width, count, k, item, tuple(told))
    return inputs is not None and digest(width, *inputs[0]) == top


def grown(width, size, old, told):
    """From numbers on: the digest of a node, its old nodes (sizes, digests), inputs from it down, what is left."""
    if old <= 0 or old >= size:
        if not told:
            raise IndexError("cut")
        return told[0], [(size, told[0])] if old > 0 else [], [], told[1:]
    half = half_of(size)
    left, left_old, left_inputs, told = grown(width, half, old, told)
    right, right_old, right_inputs, told = grown(width, size - half, old - half, told)
    mine = (1, (size, left, right))
    return digest(width, *mine), left_old + right_old, [mine] + left_inputs + right_inputs, told


def joined(width, nodes):
    """The root of a list that consists of nodes, parted as the list is."""
    if len(nodes) == 1:
        return nodes[0][1]
    size = sum(many for many, _ in nodes)
    half, at, before = half_of(size), 0, 0
    while before < half:
        before += nodes[at][0]
        at += 1
    assert before == half
    return digest(width, 1, [size, joined(width, nodes[:at]), joined(width, nodes[at:])])


def growth_inputs(width, count, old, told):
    return grown(width, count, old, tuple(told))[2]


def growth_accepted(width, old_top, old, top, count, told):
    if old < 0 or old > count or not are_digests(width, told):
        return False
    empty = digest(width, 0, [])
    if count == 0:
        return not told and old_top == top == empty
    try:
        whole, nodes, _, rest = grown(width, count, old, tuple(told))
    except IndexError:
        return False
    return not rest and whole == top and old_top == (joined(width, nodes) if nodes else empty)
