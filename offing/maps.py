"""Maps: roots, proofs of a key and of a range, and what wrong proofs give away (chapter 04)."""

from offing.hashing import collision, first_collision

LEAF_TAG = 2
NODE_TAG = 3
KEY_BITS = 32

# What the proof of a range tells a node by.
TOLD_EMPTY = 0
TOLD_ENTRY = 1
TOLD_PARTS = 2
TOLD_APART = 3


def is_key(number):
    """Tell whether an integer is a key."""
    return 0 <= number < 1 << KEY_BITS


def is_right(key, depth):
    """Tell whether a key belongs in the right part of a node at a depth."""
    return (key >> (KEY_BITS - 1 - depth)) & 1 == 1


def parted(entries, depth):
    """Return the lists of the entries in the left and in the right part of a node at a depth."""
    left = [entry for entry in entries if not is_right(entry[0], depth)]
    right = [entry for entry in entries if is_right(entry[0], depth)]
    return (left, right)


def is_end(entries, depth):
    """Tell whether the node of some entries at a depth has no parts."""
    # Keys beyond the bounds can have the same bits down to the last depth.
    return len(entries) < 2 or depth == KEY_BITS


def node_input(hasher, entries, depth):
    """Return the input of the node of some entries at a depth."""
    if len(entries) == 0:
        return (LEAF_TAG, ())
    if is_end(entries, depth):
        return (LEAF_TAG, entries[0])
    left, right = parted(entries, depth)
    left_digest = node_digest(hasher, left, depth + 1)
    right_digest = node_digest(hasher, right, depth + 1)
    return (NODE_TAG, (len(left), left_digest, len(right), right_digest))


def node_digest(hasher, entries, depth):
    """Return the digest of the node of some entries at a depth."""
    tag, numbers = node_input(hasher, entries, depth)
    return hasher.digest(tag, numbers)


def map_root(hasher, pairs):
    """Return the root of a map."""
    return node_digest(hasher, list(pairs.items()), 0)


def map_proof(hasher, pairs, key):
    """Return the proof of a key."""
    entries = list(pairs.items())
    beside = []
    depth = 0
    while not is_end(entries, depth):
        left, right = parted(entries, depth)
        entries, other = (right, left) if is_right(key, depth) else (left, right)
        depth += 1
        beside.extend([len(other), node_digest(hasher, other, depth)])
    end = entries[0] if entries else ()
    return (depth, *beside, *end)


def map_check(hasher, root, key, proof):
    """Return what an accepted proof shows of a key, otherwise None."""
    if not is_accepted(hasher, root, key, proof):
        return None
    end = end_of(proof)
    if len(end) == 2 and end[0] == key:
        return ("value", end[1])
    return ("absent",)


def is_accepted(hasher, root, key, proof):
    """Tell whether a proof is accepted for a root and a key."""
    if not has_shape(hasher, key, proof):
        return False
    tag, numbers = told_inputs(hasher, key, proof)[0]
    return hasher.digest(tag, numbers) == root


def has_shape(hasher, key, proof):
    """Tell whether a tuple or list of any integers is built as a proof of a key is."""
    if not is_key(key) or len(proof) == 0 or not 0 <= proof[0] <= KEY_BITS:
        return False
    depth = proof[0]
    if len(proof) != 1 + 2 * depth and len(proof) != 3 + 2 * depth:
        return False
    others = [other_part(proof, level) for level in range(depth)]
    if not all([many >= 0 and hasher.is_digest(told) for many, told in others]):
        return False
    end = end_of(proof)
    return len(end) == 0 or (end[1] >= 0 and begins_as(key, end[0], depth))


def begins_as(key, number, depth):
    """Tell whether a number is a key whose first bits, as many as the depth, are those of a key."""
    # The bits beyond those of a key, and the sign, are compared as well: they make no key.
    return number >> (KEY_BITS - depth) == key >> (KEY_BITS - depth)


def other_part(proof, level):
    """Return the number of entries and the digest of the part beside the way, of the node at a level."""
    return (proof[1 + 2 * level], proof[2 + 2 * level])


def end_of(proof):
    """Return the key and the value of the end of a proof of a key, or an empty tuple."""
    return tuple(proof[1 + 2 * proof[0]:])


def in_order(key, level, own, other):
    """Return what belongs to the part in which a key is and to the other one, the left part first."""
    return (other, own) if is_right(key, level) else (own, other)


def told_inputs(hasher, key, proof):
    """Return the inputs of the nodes that a proof of a key tells, from the root down to the end."""
    end = end_of(proof)
    inputs = [(LEAF_TAG, end)]
    own = (len(end) // 2, hasher.digest(LEAF_TAG, end))
    for level in reversed(range(proof[0])):
        left, right = in_order(key, level, own, other_part(proof, level))
        inputs.append((NODE_TAG, (*left, *right)))
        own = (left[0] + right[0], hasher.digest(NODE_TAG, [*left, *right]))
    return inputs[::-1]


def changed_map(pairs, changes):
    """Return a map behind changes, pairs of a key and a value, or None to take the key away; a new dict."""
    behind = dict(pairs)
    for key, value in changes:
        if value is None:
            behind.pop(key, None)
        else:
            behind[key] = value
    return behind


def map_changed(hasher, root, key, value, proof):
    """Return the root behind setting a key to a value or taking it away; None for a proof that is not accepted."""
    if not is_accepted(hasher, root, key, proof):
        return None
    depth = proof[0]
    entries = changed_end(end_of(proof), key, value)
    own = (len(entries), node_digest(hasher, entries, depth))
    for level in reversed(range(depth)):
        left, right = in_order(key, level, own, other_part(proof, level))
        own = joined(hasher, left, right)
    return own[1]


def changed_end(end, key, value):
    """Return the entries that the end of the way of a key has behind a change."""
    entries = [end] if len(end) == 2 and end[0] != key else []
    if value is not None:
        entries.append((key, value))
    return entries


def joined(hasher, left, right):
    """Return the number of entries and the digest of a node, of the same of its parts."""
    many = left[0] + right[0]
    if many == 0:
        return (0, hasher.digest(LEAF_TAG, []))
    if many == 1:
        return left if left[0] == 1 else right
    return (many, hasher.digest(NODE_TAG, [*left, *right]))


def map_break(hasher, pairs, key, proof):
    """Return the collision in an accepted proof of a key that is not the true one, otherwise None."""
    if not is_accepted(hasher, map_root(hasher, pairs), key, proof):
        return None
    own = told_inputs(hasher, key, map_proof(hasher, pairs, key))
    return first_collision(own, told_inputs(hasher, key, proof))


def first_map_break(hasher, maps, keys, proofs):
    """Return the collision of the first proof of a key that is not the true one in its map, otherwise None."""
    for pairs, key, proof in zip(maps, keys, proofs):
        found = map_break(hasher, pairs, key, proof)
        if found is not None:
            return found
    return None


def node_size(depth):
    """Return how many keys belong in a node at a depth."""
    return 1 << (KEY_BITS - depth)


def is_apart(low, high, depth, start):
    """Tell whether no key of a range belongs in the node at a depth whose least key is the start."""
    return high < start or low >= start + node_size(depth)


def range_proof(hasher, pairs, low, high):
    """Return the proof of the range of the keys from low to high."""
    return tuple(range_numbers(hasher, list(pairs.items()), low, high, 0, 0))


def range_numbers(hasher, entries, low, high, depth, start):
    """Return the list of the numbers by which the proof of a range tells a node of some entries."""
    if is_apart(low, high, depth, start):
        return [TOLD_APART, len(entries), node_digest(hasher, entries, depth)]
    if len(entries) == 0:
        return [TOLD_EMPTY]
    if is_end(entries, depth):
        return [TOLD_ENTRY, *entries[0]]
    left, right = parted(entries, depth)
    middle = start + node_size(depth + 1)
    left_numbers = range_numbers(hasher, left, low, high, depth + 1, start)
    return [TOLD_PARTS, *left_numbers, *range_numbers(hasher, right, low, high, depth + 1, middle)]


class ToldNode:
    """A node as the proof of a range tells it.

    `summary` is the number of its entries and its digest, `source` the input of that digest, and
    `parts` are its left and its right part. A node that is told by its digest alone has None as its
    source; one without parts has ().
    """

    def __init__(self, summary, source, parts):
        self.summary = summary
        self.source = source
        self.parts = parts


class RangeReader:
    """Reads the nodes that a tuple or list of any integers tells as the proof of a range."""

    def __init__(self, hasher, low, high, proof):
        self.hasher = hasher
        self.low = low
        self.high = high
        self.numbers = tuple(proof)
        self.at = 0

    def node(self, depth, start):
        """Read the node at a depth whose least key is the start; return None if it has not the right shape."""
        told = self.take(1)
        if told == (TOLD_EMPTY,):
            return self.leaf(())
        if told == (TOLD_ENTRY,):
            return self.read_entry(depth, start)
        if told == (TOLD_PARTS,):
            return self.read_parts(depth, start)
        if told == (TOLD_APART,):
            return self.read_apart(depth, start)
        return None

    def take(self, many):
        """Return the tuple of the next integers, so many of them if there are."""
        found = self.numbers[self.at:self.at + many]
        self.at += many
        return found

    def is_done(self):
        """Tell whether all integers are read."""
        return self.at >= len(self.numbers)

    def leaf(self, entry):
        """Return the node with one entry, a pair, or without entries, for ()."""
        return ToldNode((len(entry) // 2, self.hasher.digest(LEAF_TAG, entry)), (LEAF_TAG, entry), ())

    def read_entry(self, depth, start):
        """Read what stands behind the sign of a node with one entry."""
        entry = self.take(2)
        if len(entry) < 2 or not start <= entry[0] < start + node_size(depth) or entry[1] < 0:
            return None
        return self.leaf(entry)

    def read_parts(self, depth, start):
        """Read what stands behind the sign of a node with parts."""
        if depth == KEY_BITS:
            return None
        left = self.node(depth + 1, start)
        if left is None:
            return None
        right = self.node(depth + 1, start + node_size(depth + 1))
        if right is None:
            return None
        numbers = (*left.summary, *right.summary)
        many = left.summary[0] + right.summary[0]
        return ToldNode((many, self.hasher.digest(NODE_TAG, numbers)), (NODE_TAG, numbers), (left, right))

    def read_apart(self, depth, start):
        """Read what stands behind the sign of a node in which no key of the range belongs."""
        told = self.take(2)
        if len(told) < 2 or told[0] < 0 or not self.hasher.is_digest(told[1]):
            return None
        if not is_apart(self.low, self.high, depth, start):
            return None
        return ToldNode(told, None, ())


def told_range(hasher, root, low, high, proof):
    """Return the root node that an accepted proof of a range tells, otherwise None."""
    reader = RangeReader(hasher, low, high, proof)
    told = reader.node(0, 0)
    if told is None or not reader.is_done() or told.summary[1] != root:
        return None
    return told


def told_entries(told):
    """Return the list of the entries that a told node shows, by ascending keys."""
    if len(told.parts) == 2:
        left, right = told.parts
        return told_entries(left) + told_entries(right)
    if told.source is None or told.summary[0] == 0:
        return []
    return [told.source[1]]


def range_check(hasher, root, low, high, proof):
    """Return the dict of the entries of the range that an accepted proof shows, otherwise None."""
    told = told_range(hasher, root, low, high, proof)
    if told is None:
        return None
    return {key: value for key, value in told_entries(told) if low <= key <= high}


def range_break(hasher, pairs, low, high, proof):
    """Return the collision in an accepted proof of a range that tells a node otherwise than it is, otherwise None."""
    told = told_range(hasher, map_root(hasher, pairs), low, high, proof)
    if told is None:
        return None
    return told_otherwise(hasher, list(pairs.items()), 0, told)


def told_otherwise(hasher, entries, depth, told):
    """Return the collision of the first node told otherwise than it is, from that of some entries down, or None."""
    if told.source is None:
        return None
    own = node_input(hasher, entries, depth)
    if own != told.source:
        return collision(own, told.source)
    if len(told.parts) == 0:
        return None
    left, right = parted(entries, depth)
    found = told_otherwise(hasher, left, depth + 1, told.parts[0])
    if found is None:
        found = told_otherwise(hasher, right, depth + 1, told.parts[1])
    return found
