"""The rules of chapter 15 once more, written plainly: what is wrong with a list of integers."""

from offing.hashing import Hasher
from offing.headers import Block, Header
from offing.trust import Policy, step_fault
from tests import chains, reference, reference_maps


class Wrong(Exception):
    pass


class Reader:
    def __init__(self, numbers):
        self.rest = list(numbers)

    def one(self):
        if not self.rest:
            raise Wrong("end")
        return self.rest.pop(0)

    def count(self, size):
        many = self.one()
        if many not in range(len(self.rest) // size + 1):
            raise Wrong("count")
        return many

    def many(self, size, read):
        return [read() for _ in range(self.count(size))]

    def pair(self):
        return (self.one(), self.one())

    def vote(self):
        return (self.one(), tuple(self.many(1, self.one)))

    def block(self):
        header = Header(*[self.one() for _ in range(7)])
        lists = [self.many(2, self.pair) for _ in range(2)]
        return Block(header, *lists, self.many(2, self.vote))

    def close(self):
        if self.rest:
            raise Wrong("rest")


def in_order(members):
    publics = [public for public, _ in members]
    return (1 <= len(members) <= 64 and publics == sorted(set(publics)) and publics[0] >= 0
            and all(1 <= weight <= 10 ** 6 for _, weight in members))


def good_lists(width, block):
    return min(block.header.fields()) >= 0 and all(
        in_order(members) and chains.members_root(width, members) == root for members, root in (
            (block.members, block.header.members), (block.following, block.header.following)))


def client_fault(numbers):
    """The word of the fault of the numbers of a client, or None."""
    try:
        reader = Reader(numbers)
        width, period, drift, halted = [reader.one() for _ in range(4)]
        first = reader.block()
        steps = reader.many(1, lambda: (reader.one(), reader.block()))
        reader.close()
    except Wrong as wrong:
        return wrong.args[0]
    if width not in range(4, 129):
        return "width"
    if min(period, drift) < 0:
        return "policy"
    if halted not in (0, 1):
        return "halted"
    if not good_lists(width, first):
        return "block"
    trusted = {first.header.height: first}
    for base, block in steps:
        height = block.header.height
        if height in trusted or base != max((one for one in trusted if one < height), default=None):
            return "base"
        now = block.header.time - drift
        if step_fault(Hasher(width), Policy(period, drift), trusted[base], block, now) is not None:
            return "step"
        trusted[height] = block
    return None


def node_fault(numbers):
    """The word of the fault of the numbers of a node, or None."""
    try:
        reader = Reader(numbers)
        width, chain = reader.one(), reader.one()
        rows = reader.many(1, lambda: (reader.block(), reader.many(2, reader.pair)))
        reader.close()
    except Wrong as wrong:
        return wrong.args[0]
    if width not in range(4, 129):
        return "width"
    if not rows:
        return "blocks"
    for at, (block, pairs) in enumerate(rows):
        before = rows[at - 1][0] if at else None
        if not good_block(width, chain, before, block):
            return "block"
        if not good_votes(width, block):
            return "votes"
        if not good_state(width, block.header.state, pairs):
            return "state"
    return None


def good_block(width, chain, before, block):
    header = block.header
    if not good_lists(width, block) or header.chain != chain:
        return False
    if before is None:
        return (header.height, header.previous, block.votes) == (0, 0, ())
    return (header.height == before.header.height + 1 and header.time > before.header.time
            and header.previous == chains.header_digest(width, before.header.fields())
            and header.members == before.header.following and block.members == before.following)


def good_votes(width, block):
    publics = [public for public, _ in block.votes]
    message = chains.message_of(width, block.header.fields())
    return publics == sorted(set(publics)) and all(
        public in dict(block.members) and reference.valid(width, public, message, signature)
        and signature[0] == block.header.height for public, signature in block.votes)


def good_state(width, root, pairs):
    keys = [key for key, _ in pairs]
    return (keys == sorted(set(keys)) and all(0 <= key < 2 ** 32 for key in keys)
            and all(value >= 0 for _, value in pairs) and reference_maps.root(width, dict(pairs)) == root)
