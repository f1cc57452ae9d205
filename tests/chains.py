"""Signers, members and blocks for the tests, put together by the rules of the document alone."""

import functools

from offing.headers import Block, Header
from offing.hashing import Hasher
from offing.signing import Signer
from tests.reference import digest

NAMES = ("chain", "height", "time", "previous", "state", "members", "following")


@functools.cache
def signer(width, secret, levels=2):
    return Signer(Hasher(width), secret, levels)


def team(width, secrets, levels=2):
    """Signers in the order of their publics."""
    return sorted((signer(width, secret, levels) for secret in secrets), key=lambda one: one.public)


def members_of(signers, weights=None):
    weights = weights or [1] * len(signers)
    return tuple((one.public, weight) for one, weight in zip(signers, weights, strict=True))


def members_root(width, members):
    return digest(width, 9, [len(members)] + [number for pair in members for number in pair])


def header_digest(width, fields):
    return digest(width, 8, fields)


def message_of(width, fields):
    return digest(width, 10, [header_digest(width, fields)])


def votes_of(width, fields, signers, index=None):
    """The votes of signers for a header, by the key with the height as its index if no other is told."""
    index = fields[1] if index is None else index
    return tuple((one.public, one.sign(index, message_of(width, fields))) for one in signers)


def block_of(width, fields, members, following, signers, index=None):
    """A block with votes, the roots of the lists taken for None in the header."""
    fields = list(fields)
    if fields[5] is None:
        fields[5] = members_root(width, members)
    if fields[6] is None:
        fields[6] = members_root(width, following)
    votes = votes_of(width, fields, signers, index) if min(fields) >= 0 else ()
    return Block(Header(*fields), members, following, votes)


def changed(block, **parts):
    """A block with other attributes, of its header (`members_root`, `following_root` and the like) or its own."""
    fields = dict(zip(NAMES, block.header.fields(), strict=True))
    own = {"members": block.members, "following": block.following, "votes": block.votes}
    for name, value in parts.items():
        if name in own:
            own[name] = value
        else:
            fields[name.removesuffix("_root")] = value
    return Block(Header(**fields), own["members"], own["following"], own["votes"])


def voted(width, block, signers):
    """The same block with votes of these signers for the header that it has."""
    return changed(block, votes=votes_of(width, block.header.fields(), signers))
