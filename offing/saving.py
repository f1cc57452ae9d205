"""Clients and nodes, written as lists of integers and read from them (chapter 15)."""

from offing.client import Client
from offing.errors import BadNumbers
from offing.hashing import GREATEST_WIDTH, LEAST_WIDTH, Hasher
from offing.headers import follows_fault, has_negative, lists_fault, vote_message
from offing.maps import is_key, map_root
from offing.node import Node
from offing.numbers import Numbers, numbers_of_block
from offing.signing import verify
from offing.trust import Policy

STEP_SIZE = 1
BLOCK_SIZE = 1
PAIR_SIZE = 2


def saved_client(client):
    """Return the list of a client."""
    policy = client.policy
    first = client.block(client.heights()[0])
    numbers = [client.hasher.width, policy.period, policy.drift, 1 if client.halted else 0]
    numbers.extend(numbers_of_block(first))
    numbers.append(len(client.steps))
    for base, block in client.steps:
        numbers.extend([base, *numbers_of_block(block)])
    return numbers


def loaded_client(numbers):
    """Return the client that a list of any integers is."""
    reader = Numbers(numbers)
    width, period, drift, halted = reader.some(4)
    first = reader.block()
    steps = [(reader.one(), reader.block()) for _ in range(reader.count(STEP_SIZE))]
    reader.close()
    hasher = hasher_of(width)
    if period < 0 or drift < 0:
        raise BadNumbers("policy")
    if not 0 <= halted <= 1:
        raise BadNumbers("halted")
    if has_negative(first.header) or lists_fault(hasher, first) is not None:
        raise BadNumbers("block")
    client = Client(hasher, Policy(period, drift), first)
    for base, block in steps:
        do_step(client, base, block)
    client.halted = halted == 1
    return client


def hasher_of(width):
    """Return the hasher of a width."""
    if not LEAST_WIDTH <= width <= GREATEST_WIDTH:
        raise BadNumbers("width")
    return Hasher(width)


def do_step(client, base, block):
    """Let a client do a step that it is told to have done."""
    height = block.header.height
    trusted = client.heights()
    below = [one for one in trusted if one < height]
    if height in trusted or below[-1:] != [base]:
        raise BadNumbers("base")
    # The earliest time at which the block is not too new: if the base is expired then, it always is.
    now = block.header.time - client.policy.drift
    if client.follow({height: block}, [height], now) != ("trusted",):
        raise BadNumbers("step")


def saved_node(node):
    """Return the list of a node."""
    numbers = [node.hasher.width, node.chain, node.height() + 1]
    for height in range(node.height() + 1):
        pairs = node.pairs_at(height)
        numbers.extend(numbers_of_block(node.block(height)))
        numbers.append(len(pairs))
        for key, value in sorted(pairs.items()):
            numbers.extend([key, value])
    return numbers


def loaded_node(numbers):
    """Return the node that a list of any integers is."""
    reader = Numbers(numbers)
    width, chain = reader.some(2)
    rows = [(reader.block(), read_pairs(reader)) for _ in range(reader.count(BLOCK_SIZE))]
    reader.close()
    hasher = hasher_of(width)
    if len(rows) == 0:
        raise BadNumbers("blocks")
    before = None
    for block, pairs in rows:
        check_row(hasher, chain, before, block, pairs)
        before = block
    return node_of(hasher, chain, rows)


def read_pairs(reader):
    """Read the pairs of a state."""
    return [reader.some(PAIR_SIZE) for _ in range(reader.count(PAIR_SIZE))]


def node_of(hasher, chain, rows):
    """Return the node with these blocks, each with the pairs of its state."""
    first, pairs = rows[0]
    node = Node(hasher, chain, first.header.time, first.members, first.following, dict(pairs))
    for block, pairs in rows[1:]:
        node.attach(block, dict(pairs))
    return node


def check_row(hasher, chain, before, block, pairs):
    """Find the first fault of a block of a chain and its state; the block before is None for the first one."""
    if has_negative(block.header) or block.header.chain != chain or lists_fault(hasher, block) is not None:
        raise BadNumbers("block")
    if not (is_first(block) if before is None else is_behind(hasher, before, block)):
        raise BadNumbers("block")
    if not are_whole_votes(hasher, block):
        raise BadNumbers("votes")
    if not is_state(hasher, block.header.state, pairs):
        raise BadNumbers("state")


def is_first(block):
    """Tell whether a block is built as that of the height 0 is."""
    return block.header.height == 0 and block.header.previous == 0 and len(block.votes) == 0


def is_behind(hasher, before, block):
    """Tell whether a block follows another one, with the members that this has for the next height."""
    return follows_fault(hasher, before.header, block.header) is None and block.members == before.following


def are_whole_votes(hasher, block):
    """Tell whether the votes of a block are right, each of a member and in its place."""
    publics = [public for public, signature in block.votes]
    if not ascend(publics):
        return False
    is_member = {public: True for public, weight in block.members}
    message = vote_message(hasher, block.header)
    for public, signature in block.votes:
        if public not in is_member or not verify(hasher, public, message, signature):
            return False
        if signature[0] != block.header.height:
            return False
    return True


def is_state(hasher, root, pairs):
    """Tell whether pairs are those of a state with this root, by ascending keys."""
    if not ascend([key for key, value in pairs]):
        return False
    if not all([is_key(key) and value >= 0 for key, value in pairs]):
        return False
    return map_root(hasher, dict(pairs)) == root


def ascend(numbers):
    """Tell whether each of some integers is greater than the one before."""
    return all([before < number for before, number in zip(numbers, numbers[1:])])
