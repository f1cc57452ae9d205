"""Logs of headers, their checkpoints, and papers of logs that part (chapter 14)."""

from offing.hashing import collision
from offing.headers import HEADER_TAG, copied_header, header_digest
from offing.lists import growth_break, growth_check, growth_proof, list_break, list_check, list_proof, list_root
from offing.shapes import is_natural, is_number, is_row, is_told_item, is_tuple_of

LOG_TAG = 11


def item_numbers(hasher, height, header):
    """Return the numbers of which the item of a header is the digest."""
    return (height, header_digest(hasher, header))


def log_item(hasher, height, header):
    """Return the item of a header."""
    return hasher.digest(LOG_TAG, item_numbers(hasher, height, header))


class Log:
    """A list of headers, said to be those of the heights from 0 on, and their items."""

    def __init__(self, hasher):
        self.hasher = hasher
        self.headers = []
        self.leaves = []

    def add(self, header):
        """Add a header."""
        own = copied_header(header)
        self.leaves.append(log_item(self.hasher, len(self.headers), own))
        self.headers.append(own)

    def copy(self):
        """Return a log that holds the same."""
        log = Log(self.hasher)
        for header in list(self.headers):
            log.add(header)
        return log

    def checkpoint(self, size):
        """Return the checkpoint of the first items, so many of them."""
        return (size, list_root(self.hasher, self.leaves[:size]))

    def growth(self, old, size):
        """Return the proof that the first items have grown from fewer ones."""
        return growth_proof(self.hasher, self.leaves[:size], old)

    def proof(self, size, k):
        """Return the proof of an item among the first ones."""
        return list_proof(self.hasher, self.leaves[:size], k)


class Follower:
    """Takes checkpoints of a log, each of them grown from the one before."""

    def __init__(self, hasher):
        self.hasher = hasher
        self.taken = [(0, list_root(hasher, []))]

    def checkpoint(self):
        """Return the last checkpoint that was taken."""
        return self.taken[-1]

    def advance(self, checkpoint, proof):
        """Take a checkpoint, if a proof shows that it has grown from the last one; return whether it is taken."""
        if not is_tuple_of(checkpoint, 2) or not all([is_natural(number) for number in checkpoint]):
            return False
        if not is_row(proof) or not has_grown(self.hasher, self.taken[-1], checkpoint, proof):
            return False
        self.taken.append(checkpoint)
        return True

    def shows(self, height, header, proof):
        """Tell whether a proof shows that a header is that of a height in the last checkpoint."""
        size, root = self.taken[-1]
        if not is_row(proof):
            return False
        return list_check(self.hasher, root, size, height, log_item(self.hasher, height, header), proof)


def has_grown(hasher, old, new, proof):
    """Tell whether a proof shows that a checkpoint has grown from an old one."""
    return growth_check(hasher, old[1], old[0], new[1], new[0], proof)


def compare(hasher, first, second, proof):
    """Return the word for how two checkpoints stand to each other."""
    if first[0] == second[0]:
        return "same" if first[1] == second[1] else "split"
    old, new = (first, second) if first[0] < second[0] else (second, first)
    if proof is not None and has_grown(hasher, old, new, proof):
        return "grown"
    return "unknown"


def split_paper(first, second, size_first, size_second):
    """Return the paper of the first place at which two logs differ, for their checkpoints, or None."""
    items = first.leaves[:size_first]
    others = second.leaves[:size_second]
    for place, (item, other) in enumerate(zip(items, others)):
        if item != other:
            return (place, (item, first.proof(size_first, place)), (other, second.proof(size_second, place)))
    return None


def split_holds(hasher, first, second, paper):
    """Tell whether a paper shows that two checkpoints are none of one list."""
    if not is_tuple_of(paper, 3) or not is_number(paper[0]) or not all([is_told_item(one) for one in paper[1:]]):
        return False
    place, (item, proof), (other, other_proof) = paper
    if item == other or not list_check(hasher, first[1], first[0], place, item, proof):
        return False
    return list_check(hasher, second[1], second[0], place, other, other_proof)


def is_of_log(log, checkpoint):
    """Tell whether a checkpoint is that of the first items of a log."""
    return checkpoint[0] <= len(log.leaves) and checkpoint == log.checkpoint(checkpoint[0])


def judge_follower(log, taken, proofs):
    """Return the collision of the first checkpoint that is none of a log before one that is, or what else is wrong."""
    own = [is_of_log(log, checkpoint) for checkpoint in taken]
    for k in range(len(proofs)):
        if own[k + 1] and not own[k]:
            size, root = taken[k]
            return growth_break(log.hasher, log.leaves[:taken[k + 1][0]], root, size, proofs[k])
    if False in own:
        return ("other", own.index(False))
    return None


def shown_break(log, size, height, header, proof):
    """Return the collision if a proof shows a header that a log has not at this height, otherwise None."""
    hasher = log.hasher
    items = log.leaves[:size]
    item = log_item(hasher, height, header)
    if not list_check(hasher, list_root(hasher, items), len(items), height, item, proof):
        return None
    own = log.headers[height]
    if own == header:
        return None
    found = list_break(hasher, items, height, item, proof)
    if found is None:
        found = header_break(hasher, height, own, header)
    return found


def header_break(hasher, height, own, told):
    """Return the collision of two headers that have one item at a height."""
    numbers = (item_numbers(hasher, height, own), item_numbers(hasher, height, told))
    if numbers[0] == numbers[1]:
        return collision((HEADER_TAG, own.fields()), (HEADER_TAG, told.fields()))
    return collision((LOG_TAG, numbers[0]), (LOG_TAG, numbers[1]))
