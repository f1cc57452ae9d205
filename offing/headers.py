"""Headers and blocks, and their faults (chapter 07)."""

from offing.validators import members_fault, members_root, more_than, signers

HEADER_TAG = 8
VOTE_TAG = 10


class Header:
    """What the validators of a height sign."""

    def __init__(self, chain, height, time, previous, state, members, following):
        self.chain = chain
        self.height = height
        self.time = time
        self.previous = previous
        self.state = state
        self.members = members
        self.following = following

    def __eq__(self, other):
        return (
            isinstance(other, Header)
            and self.chain == other.chain
            and self.height == other.height
            and self.time == other.time
            and self.previous == other.previous
            and self.state == other.state
            and self.members == other.members
            and self.following == other.following
        )

    def fields(self):
        """Return the tuple of the seven integers."""
        return (self.chain, self.height, self.time, self.previous, self.state, self.members, self.following)


class Block:
    """A header with the members whose roots it has, and the votes for it."""

    def __init__(self, header, members, following, votes):
        self.header = header
        self.members = tuple(members)
        self.following = tuple(following)
        self.votes = tuple(votes)

    def __eq__(self, other):
        return (
            isinstance(other, Block)
            and self.header == other.header
            and self.members == other.members
            and self.following == other.following
            and self.votes == other.votes
        )


def copied_header(header):
    """Return a header that is equal to another one."""
    fields = header.fields()
    return Header(*fields)


def copied(block):
    """Return a block that is equal to another one, with a header of its own."""
    return Block(copied_header(block.header), block.members, block.following, block.votes)


def header_digest(hasher, header):
    """Return the digest of a header."""
    return hasher.digest(HEADER_TAG, header.fields())


def vote_message(hasher, header):
    """Return the digest that is signed by who votes for a header."""
    return hasher.digest(VOTE_TAG, [header_digest(hasher, header)])


def block_signers(hasher, block):
    """Return the ascending tuple of the publics of the members of a block that have voted for its header."""
    return signers(hasher, vote_message(hasher, block.header), block.members, block.votes)


def is_root_of(hasher, root, members):
    """Tell whether members are in order and have this root."""
    return members_fault(members) is None and members_root(hasher, members) == root


def lists_fault(hasher, block):
    """Return the first fault of the members of a block and those of the next height, or None."""
    if not is_root_of(hasher, block.header.members, block.members):
        return "members"
    if not is_root_of(hasher, block.header.following, block.following):
        return "following"
    return None


def has_negative(header):
    """Tell whether a number of a header is negative."""
    return any([number < 0 for number in header.fields()])


def block_fault(hasher, chain, block):
    """Return the first fault that a block of a chain has for itself, or None."""
    if has_negative(block.header):
        return "header"
    if block.header.chain != chain:
        return "chain"
    fault = lists_fault(hasher, block)
    if fault is not None:
        return fault
    if not more_than(block.members, block_signers(hasher, block), 2, 3):
        return "votes"
    return None


def follows_fault(hasher, old, new):
    """Return the first fault of a header that shall follow another one, or None."""
    if new.chain != old.chain:
        return "chain"
    if new.height != old.height + 1:
        return "height"
    if new.time <= old.time:
        return "time"
    if new.previous != header_digest(hasher, old):
        return "previous"
    if new.members != old.following:
        return "members"
    return None
