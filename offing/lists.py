"""Merkle lists: roots, proofs of an item, and proofs that a list has grown (chapter 03)."""

from offing.hashing import are_digests, first_collision

LEAF_TAG = 0
NODE_TAG = 1


def left_size(size):
    """Return the greatest power of two that is less than a size from 2 on."""
    return 1 << ((size - 1).bit_length() - 1)


def part_with(size, place):
    """Return whether a place is in the left part of a node, the size of the part that has it, and the place there."""
    left = left_size(size)
    if place < left:
        return (True, left, place)
    return (False, size - left, place - left)


def list_root(hasher, items):
    """Return the root of a list of items."""
    size = len(items)
    if size < 2:
        return hasher.digest(LEAF_TAG, items)
    left = left_size(size)
    return hasher.digest(NODE_TAG, [size, list_root(hasher, items[:left]), list_root(hasher, items[left:])])


def list_proof(hasher, items, k):
    """Return the proof of the item with an index."""
    size = len(items)
    if size < 2:
        return ()
    left = left_size(size)
    if k < left:
        return (*list_proof(hasher, items[:left], k), list_root(hasher, items[left:]))
    return (*list_proof(hasher, items[left:], k - left), list_root(hasher, items[:left]))


def growth_proof(hasher, items, old):
    """Return the proof that a list has grown from its first items, so many of them."""
    size = len(items)
    if size == 0:
        return ()
    if not 0 < old < size:
        return (list_root(hasher, items),)
    left = left_size(size)
    return (*growth_proof(hasher, items[:left], old), *growth_proof(hasher, items[left:], old - left))


def list_check(hasher, root, count, k, item, proof):
    """Tell whether the proof of an item is accepted."""
    # A digest is made of a negative number, too, but it is no item.
    if item < 0 or not 0 <= k < count:
        return False
    way = item_way(count, k, len(proof))
    if len(way) != len(proof) or not are_digests(hasher, proof):
        return False
    tag, numbers = item_inputs(hasher, way, item, proof)[0]
    return hasher.digest(tag, numbers) == root


def item_way(count, k, most):
    """Return the way from the root to an item: the size of each node, and whether it goes on to the left.

    A way that is longer than `most` is not followed to its end: any number of items may be told.
    """
    way = []
    size = count
    while size > 1 and len(way) <= most:
        goes_left, part, k = part_with(size, k)
        way.append((size, goes_left))
        size = part
    return way


def item_inputs(hasher, way, item, proof):
    """Return the inputs of the digests that a proof of an item tells, from the root down to the item."""
    leaf = (LEAF_TAG, (item,))
    end = hasher.digest(LEAF_TAG, [item])
    return [*way_inputs(hasher, way, proof[::-1], end), leaf]


def way_inputs(hasher, way, beside, end):
    """Return the inputs of the nodes on a way, of the digests beside it and of its end, all from the root on."""
    inputs = []
    below = end
    for at in reversed(range(len(way))):
        size, goes_left = way[at]
        numbers = (size, below, beside[at]) if goes_left else (size, beside[at], below)
        inputs.append((NODE_TAG, numbers))
        below = hasher.digest(NODE_TAG, numbers)
    return inputs[::-1]


def list_break(hasher, items, k, item, proof):
    """Return the collision in an accepted proof that is not the true one of the true item, otherwise None."""
    count = len(items)
    if not list_check(hasher, list_root(hasher, items), count, k, item, proof):
        return None
    way = item_way(count, k, len(proof))
    own = item_inputs(hasher, way, items[k], list_proof(hasher, items, k))
    return first_collision(own, item_inputs(hasher, way, item, proof))


def growth_check(hasher, old_root, old, root, count, proof):
    """Tell whether the proof of a growth is accepted."""
    if not 0 <= old <= count:
        return False
    if count == 0:
        return len(proof) == 0 and old_root == root and root == list_root(hasher, [])
    way = growth_way(count, old, len(proof))
    if len(way) + 1 != len(proof) or not are_digests(hasher, proof):
        return False
    if old_root != told_old_root(hasher, way, old, proof):
        return False
    return root == told_root(hasher, way, proof)


def growth_way(count, old, most):
    """Return the way from the root to where a list has grown: sizes, and whether it goes on to the left.

    It ends at a node of which all items or none are old. A way that is longer than a proof with
    `most` digests tells is not followed to its end: any number of items may be told.
    """
    way = []
    size = count
    while 0 < old < size and len(way) < most:
        goes_left, part, old = part_with(size, old)
        way.append((size, goes_left))
        size = part
    return way


def growth_beside(way, proof):
    """Return the digests of a growth proof that are beside its way, from the root on, and that of its end.

    The proof has all from left to right: what is left of the way comes from the root down, then the
    end, then what is right of the way from below.
    """
    beside = []
    low = 0
    high = len(proof) - 1
    for size, goes_left in way:
        if goes_left:
            beside.append(proof[high])
            high -= 1
        else:
            beside.append(proof[low])
            low += 1
    return (beside, proof[low])


def growth_inputs(hasher, way, proof):
    """Return the inputs of the digests that a growth proof tells, from the root down."""
    if len(way) == 0:
        return []
    beside, end = growth_beside(way, proof)
    return way_inputs(hasher, way, beside, end)


def told_root(hasher, way, proof):
    """Return the root of the whole list that a growth proof tells."""
    if len(way) == 0:
        return proof[0]
    tag, numbers = growth_inputs(hasher, way, proof)[0]
    return hasher.digest(tag, numbers)


def told_old_root(hasher, way, old, proof):
    """Return the root of the old list that a growth proof tells."""
    if old == 0:
        return list_root(hasher, [])
    if len(way) == 0:
        return proof[0]
    # The old nodes are those beside the way on its left, and the proof begins with them.
    sizes = [left_size(size) for size, goes_left in way if not goes_left]
    size = sizes[-1]
    root = proof[len(sizes) - 1]
    for at in reversed(range(len(sizes) - 1)):
        size += sizes[at]
        root = hasher.digest(NODE_TAG, [size, proof[at], root])
    return root


def growth_break(hasher, items, old_root, old, proof):
    """Return the collision in an accepted proof of a growth to a list that is not the true one, otherwise None."""
    count = len(items)
    if not growth_check(hasher, old_root, old, list_root(hasher, items), count, proof):
        return None
    way = growth_way(count, old, len(proof))
    own = growth_inputs(hasher, way, growth_proof(hasher, items, old))
    return first_collision(own, growth_inputs(hasher, way, proof))
