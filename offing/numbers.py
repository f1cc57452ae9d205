"""Blocks and their parts, written as lists of integers and read from them (chapter 02)."""

from offing.errors import BadNumbers
from offing.headers import Block, Header
from offing.validators import members_numbers

HEADER_SIZE = 7
MEMBER_SIZE = 2
# The shortest vote: a public, and the number of the integers of its signature.
VOTE_SIZE = 2


def numbers_of_row(row):
    """Return the list of a row of integers."""
    return [len(row), *row]


def numbers_of_members(members):
    """Return the list of members."""
    return members_numbers(members)


def numbers_of_votes(votes):
    """Return the list of votes."""
    numbers = [len(votes)]
    for public, signature in votes:
        numbers.append(public)
        numbers.extend(numbers_of_row(signature))
    return numbers


def numbers_of_block(block):
    """Return the list of a block."""
    numbers = list(block.header.fields())
    numbers.extend(numbers_of_members(block.members))
    numbers.extend(numbers_of_members(block.following))
    numbers.extend(numbers_of_votes(block.votes))
    return numbers


def row_of(numbers):
    """Return the row of integers that a list is."""
    reader = Numbers(numbers)
    row = reader.row()
    reader.close()
    return row


def block_of(numbers):
    """Return the block that a list is."""
    reader = Numbers(numbers)
    block = reader.block()
    reader.close()
    return block


class Numbers:
    """Reads the parts of a list of any integers, one behind the other."""

    def __init__(self, numbers):
        self._numbers = list(numbers)
        self._at = 0

    def one(self):
        """Return the next integer."""
        return self.some(1)[0]

    def some(self, count):
        """Return the tuple of the next integers, so many of them."""
        many = max(0, count)
        if many > self._left():
            raise BadNumbers("end")
        found = tuple(self._numbers[self._at:self._at + many])
        self._at += many
        return found

    def count(self, size):
        """Return the next integer as a number of things with so many integers each."""
        many = self.one()
        if many < 0 or many * size > self._left():
            raise BadNumbers("count")
        return many

    def row(self):
        """Return the next row of integers, a tuple."""
        return self.some(self.count(1))

    def members(self):
        """Return the next members, a tuple."""
        return tuple([self.some(MEMBER_SIZE) for _ in range(self.count(MEMBER_SIZE))])

    def votes(self):
        """Return the next votes, a tuple."""
        return tuple([(self.one(), self.row()) for _ in range(self.count(VOTE_SIZE))])

    def block(self):
        """Return the next block."""
        fields = self.some(HEADER_SIZE)
        members = self.members()
        following = self.members()
        votes = self.votes()
        return Block(Header(*fields), members, following, votes)

    def close(self):
        """Find a fault if integers are left."""
        if self._left() > 0:
            raise BadNumbers("rest")

    def _left(self):
        """Return how many integers are left."""
        return len(self._numbers) - self._at
