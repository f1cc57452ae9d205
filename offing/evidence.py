"""Verdicts on the steps of a client that has left the chain, and double signers (chapter 11)."""

from offing.hashing import collision, is_collision
from offing.headers import HEADER_TAG, VOTE_TAG, block_signers, has_negative, header_digest, vote_message
from offing.validators import MEMBERS_TAG, members_numbers, more_than


def judge_step(node, start, block):
    """Return the verdict on a step from the chain's block of a height, or None if the block is the chain's."""
    own = node.block(block.header.height)
    if own is not None and own.header == block.header:
        return lists_verdict(own, block)
    base_following = following_of(node, start)
    if block.header.height == start + 1 and block.members != base_following:
        return members_collision(base_following, block.members)
    voted = same_voted(node, block.header)
    if voted is not None:
        return header_collision(node.hasher, voted, block.header)
    return ("culprits", start, common_signers(node.hasher, base_following, block), block)


def judge_steps(node, steps):
    """Return the verdict on the first of some steps whose block is not the chain's, or None."""
    for base, block in steps:
        verdict = judge_step(node, base, block)
        if verdict is not None:
            return verdict
    return None


def following_of(node, height):
    """Return the members that the chain has for the height behind another one, () if it has none."""
    base = node.block(height)
    # The last height of the chain has them too, although no block is behind it.
    return () if base is None else base.following


def lists_verdict(own, block):
    """Return the collision of the first members in which a block and the chain's with its header differ, or None."""
    if own.members != block.members:
        return members_collision(own.members, block.members)
    if own.following != block.following:
        return members_collision(own.following, block.following)
    return None


def members_collision(own, told):
    """Return the collision of two members of one root."""
    return collision((MEMBERS_TAG, members_numbers(own)), (MEMBERS_TAG, members_numbers(told)))


def same_voted(node, header):
    """Return the first header of the chain for which the same is voted as for a header, or None."""
    message = vote_message(node.hasher, header)
    for height in range(node.height() + 1):
        own = node.block(height).header
        if vote_message(node.hasher, own) == message:
            return own
    return None


def header_collision(hasher, own, told):
    """Return the collision of two headers for which the same is voted."""
    digests = (header_digest(hasher, own), header_digest(hasher, told))
    if digests[0] == digests[1]:
        return collision((HEADER_TAG, own.fields()), (HEADER_TAG, told.fields()))
    return collision((VOTE_TAG, digests[:1]), (VOTE_TAG, digests[1:]))


def common_signers(hasher, members, block):
    """Return the ascending tuple of the signers of a block that are among members."""
    is_member = {public: True for public, weight in members}
    return tuple([public for public in block_signers(hasher, block) if public in is_member])


def verdict_holds(node, verdict):
    """Tell whether a verdict is right."""
    if verdict is None or verdict[0] != "culprits":
        return is_collision(node.hasher, verdict)
    height, publics, block = verdict[1:]
    if node.block(height) is None or not is_off_chain(node, block.header):
        return False
    members = following_of(node, height)
    found = common_signers(node.hasher, members, block)
    return all([public in found for public in publics]) and more_than(members, publics, 1, 3)


def is_off_chain(node, header):
    """Tell whether a header is none of the chain, and what is voted for it is voted for none of the chain."""
    # The same is voted for a header that is the chain's, so that needs no look of its own.
    return not has_negative(header) and same_voted(node, header) is None


def double_signers(hasher, first, second):
    """Return the ascending tuple of the publics that have signed two blocks of one height."""
    if first.header.height != second.header.height or first.header == second.header:
        return ()
    others = block_signers(hasher, second)
    return tuple([public for public in block_signers(hasher, first) if public in others])
