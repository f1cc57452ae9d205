import itertools
import unittest

from offing.hashing import Hasher
from offing.headers import (
    Block, Header, block_fault, block_signers, follows_fault, header_digest, lists_fault, vote_message)
from tests import chains, reference

FIELDS = (3, 1, 110, 999, 2 ** 70, 7, 8)


class Headers(unittest.TestCase):
    def test_the_attributes(self):
        header = Header(*FIELDS)
        self.assertEqual(header.fields(), FIELDS)
        self.assertIs(type(header.fields()), tuple)
        for name, number in zip(chains.NAMES, FIELDS, strict=True):
            self.assertEqual(getattr(header, name), number)
        named = Header(following=8, members=7, state=2 ** 70, previous=999, time=110, height=1, chain=3)
        self.assertEqual(named.fields(), FIELDS)

    def test_fields_are_those_of_now(self):
        header = Header(*FIELDS)
        header.state = 6
        self.assertEqual(header.fields(), (3, 1, 110, 999, 6, 7, 8))

    def test_equal_headers(self):
        self.assertTrue(Header(*FIELDS) == Header(*FIELDS))
        self.assertFalse(Header(*FIELDS) != Header(*FIELDS))
        for at in range(7):
            for number in (FIELDS[at] + 1, -FIELDS[at], FIELDS[at] + 2 ** 64):
                other = Header(*FIELDS[:at], number, *FIELDS[at + 1:])
                self.assertIs(Header(*FIELDS) == other, False)
                self.assertIs(other == Header(*FIELDS), False)
                self.assertIs(Header(*FIELDS) != other, True)

    def test_other_values(self):
        header = Header(*FIELDS)
        for other in (None, 0, FIELDS, list(FIELDS), "header", {}, Block(header, (), (), ())):
            self.assertIs(header == other, False)
            self.assertIs(other == header, False)
            self.assertIs(header != other, True)

    def test_digests(self):
        for width in (4, 32, 64, 128):
            hasher = Hasher(width)
            for fields in (FIELDS, (0,) * 7, (2 ** 70,) * 7, (1, 2, 3, 4, 5, 6, 7), (7, 6, 5, 4, 3, 2, 1)):
                expected = reference.digest(width, 8, list(fields))
                self.assertEqual(header_digest(hasher, Header(*fields)), expected)
                self.assertEqual(vote_message(hasher, Header(*fields)), reference.digest(width, 10, [expected]))


class Blocks(unittest.TestCase):
    parts = (((5, 1), (6, 2)), ((5, 3),), ((5, (1, 2)), (6, ())))

    def test_lists_become_tuples(self):
        lists = [list(part) for part in self.parts]
        block = Block(Header(*FIELDS), *lists)
        for part in lists:
            part.append((9, 9))
        self.assertEqual((block.members, block.following, block.votes), self.parts)
        for part in (block.members, block.following, block.votes):
            self.assertIs(type(part), tuple)
        self.assertEqual(block.header, Header(*FIELDS))
        self.assertEqual(block, Block(Header(*FIELDS), *self.parts))

    def test_equal_blocks(self):
        block = Block(Header(*FIELDS), *self.parts)
        self.assertTrue(block == Block(Header(*FIELDS), *self.parts))
        self.assertFalse(block != Block(Header(*FIELDS), *self.parts))
        others = [Block(Header(*FIELDS[:at], 50, *FIELDS[at + 1:]), *self.parts) for at in range(7)]
        for at, part in enumerate(self.parts):
            for other in ((), part[:-1], part + part[:1], part[::-1] + ((0, 0),)):
                others.append(Block(Header(*FIELDS), *self.parts[:at], other, *self.parts[at + 1:]))
        others.append(Block(Header(*FIELDS), self.parts[1], self.parts[0], self.parts[2]))
        others.append(Block(Header(*FIELDS), *self.parts[:2], ((5, (1, 3)), (6, ()))))
        for other in others:
            self.assertIs(block == other, False)
            self.assertIs(other == block, False)
            self.assertIs(block != other, True)

    def test_other_values(self):
        header = Header(*FIELDS)
        block = Block(header, *self.parts)
        for other in (None, 0, header, (header, *self.parts), "block", []):
            self.assertIs(block == other, False)
            self.assertIs(other == block, False)


class Faults(unittest.TestCase):
    """A block without fault at the height 1 is made, and then changed."""

    width = 64

    def setUp(self):
        self.hasher = Hasher(self.width)
        self.team = chains.team(self.width, (1, 2, 3))
        self.members = chains.members_of(self.team, (3, 2, 1))
        self.later = chains.members_of(chains.team(self.width, (2, 4)))
        self.block = self.made(FIELDS[:5] + (None, None))

    def made(self, fields, signers=None):
        return chains.block_of(self.width, fields, self.members, self.later, signers or self.team)

    def changed(self, **parts):
        """The block with other parts, and votes for the header that it has then."""
        block = chains.changed(self.block, **parts)
        if "votes" not in parts and min(block.header.fields()) >= 0:
            block = chains.voted(self.width, block, self.team)
        return block

    def fault(self, block, chain=3):
        return block_fault(self.hasher, chain, block)

    def bad_lists(self, good):
        low, high = good[0], good[-1]
        return [(), (high, low), (low, low), ((-1, 1),) + good, ((low[0], 0), high), ((low[0], 1000001), high),
                (low, (high[0], high[1] + 1)), (low,), good + ((2 ** 64, 1),)]

    def test_no_fault(self):
        self.assertIsNone(self.fault(self.block))
        self.assertIsNone(lists_fault(self.hasher, self.block))
        for zeros in itertools.product((0, 3), repeat=5):
            self.assertIsNone(self.fault(self.made((*zeros, None, None)), zeros[0]))

    def test_negative_numbers_in_the_header(self):
        for name in ("chain", "height", "time", "previous", "state", "members_root", "following_root"):
            for number in (-1, -2 ** 70):
                self.assertEqual(self.fault(self.changed(**{name: number})), "header")
                for chain in (-1, 4, number):
                    self.assertEqual(self.fault(self.changed(**{name: number}), chain), "header")

    def test_another_chain(self):
        for chain in (2, 4, 0, -3, 2 ** 64 + 3):
            self.assertEqual(self.fault(self.block, chain), "chain")
        self.assertEqual(self.fault(self.changed(chain=4)), "chain")
        self.assertIsNone(self.fault(self.changed(chain=4), 4))

    def test_members(self):
        for members in self.bad_lists(self.members):
            block = self.changed(members=members)
            self.assertEqual(lists_fault(self.hasher, block), "members")
            self.assertEqual(self.fault(block), "members")
        root = self.block.header.members
        for other in (root + 1, root ^ 1, 0, root + 2 ** 64, self.block.header.following):
            self.assertEqual(self.fault(self.changed(members_root=other)), "members")

    def test_members_out_of_order_with_their_root(self):
        for members in ((), self.members[::-1], self.members + self.members[-1:], ((5, 0),) + self.members):
            root = chains.members_root(self.width, members)
            self.assertEqual(self.fault(self.changed(members=members, members_root=root)), "members")
            self.assertEqual(self.fault(self.changed(following=members, following_root=root)), "following")

    def test_negative_numbers_are_not_taken_for_others(self):
        members = ((2 ** 32 - 1, 1),)
        for made in (((-1, 1),), ((2 ** 32 - 1, 1 - 2 ** 32),)):
            block = self.changed(following=made, following_root=chains.members_root(self.width, members))
            self.assertEqual(lists_fault(self.hasher, block), "following")

    def test_those_of_the_next_height(self):
        for members in self.bad_lists(self.later):
            block = self.changed(following=members)
            self.assertEqual(lists_fault(self.hasher, block), "following")
            self.assertEqual(self.fault(block), "following")
        root = self.block.header.following
        for other in (root + 1, 0, root + 2 ** 64, self.block.header.members):
            self.assertEqual(self.fault(self.changed(following_root=other)), "following")

    def test_both_lists(self):
        block = self.changed(members=(), following=())
        self.assertEqual(lists_fault(self.hasher, block), "members")
        self.assertEqual(self.fault(block), "members")
        self.assertEqual(lists_fault(self.hasher, self.changed(members=self.later, following=self.members)), "members")

    def test_more_than_two_thirds(self):
        weights = dict(zip(self.team, (3, 2, 1), strict=True))
        for many in range(4):
            for voters in itertools.combinations(self.team, many):
                block = chains.voted(self.width, self.block, voters)
                expected = None if sum(weights[one] for one in voters) > 4 else "votes"
                self.assertEqual(self.fault(block), expected)
                self.assertEqual(block_signers(self.hasher, block), tuple(one.public for one in voters))

    def test_votes_that_do_not_count(self):
        one, two, three = self.team
        other = chains.signer(self.width, 4)
        fields = self.block.header.fields()
        for votes in (
                chains.votes_of(self.width, fields, [one, one, other]),
                chains.votes_of(self.width, fields, [one]) + ((two.public, ()), (three.public, (1, 2))),
                chains.votes_of(self.width, FIELDS, self.team),
                tuple((mine.public, mine.sign(1, chains.header_digest(self.width, fields))) for mine in self.team)):
            self.assertEqual(self.fault(chains.changed(self.block, votes=votes)), "votes")
        votes = ((two.public, (5,)),) + chains.votes_of(self.width, fields, [two, two, one, other], 3)
        block = chains.changed(self.block, votes=votes)
        self.assertIsNone(self.fault(block))
        self.assertEqual(block_signers(self.hasher, block), (one.public, two.public))

    def test_the_members_of_its_height_count(self):
        block = chains.voted(self.width, self.block, chains.team(self.width, (2, 4)))
        self.assertEqual(self.fault(block), "votes")
        self.assertEqual(block_signers(self.hasher, block), (chains.signer(self.width, 2).public,))

    def test_two_faults(self):
        parts = [{"time": -1}, {"chain": 9}, {"members": ()}, {"following": ()}, {"votes": ()}]
        faults = ["header", "chain", "members", "following", "votes"]
        for first, second in itertools.combinations(range(5), 2):
            block = self.changed(**parts[second], **parts[first])
            self.assertEqual(self.fault(block), faults[first])
        for at in range(5):
            self.assertEqual(self.fault(self.changed(**parts[at])), faults[at])

    def test_any_integers_in_a_block(self):
        for numbers in ((-5, -1), (2 ** 90, -2 ** 90), (0, 0)):
            block = self.changed(members=(numbers, numbers), following=(numbers,), votes=((numbers[0], numbers),))
            self.assertEqual(self.fault(block), "members")
            votes = ((numbers[0], numbers), (self.team[0].public, numbers), (-1, ()))
            self.assertEqual(self.fault(self.changed(votes=votes)), "votes")
            self.assertEqual(block_signers(self.hasher, self.changed(votes=votes)), ())


class Following(unittest.TestCase):
    old = Header(3, 4, 100, 50, 60, 70, 80)

    def header(self, **parts):
        fields = {"chain": 3, "height": 5, "time": 101, "previous": chains.header_digest(64, self.old.fields()),
                  "state": 9, "members": 80, "following": 7}
        return Header(**(fields | parts))

    def fault(self, new, old=None):
        return follows_fault(Hasher(64), old or self.old, new)

    def test_no_fault(self):
        for parts in ({}, {"time": 2 ** 70}, {"state": 0}, {"following": 0}):
            self.assertIsNone(self.fault(self.header(**parts)))

    def test_each_fault(self):
        previous = self.header().previous
        cases = {"chain": (2, 4, 0, 2 ** 70), "height": (4, 6, 0, 3, 2 ** 64 + 5), "time": (100, 99, 0),
                 "previous": (previous + 1, previous ^ 1, 0, 50, previous + 2 ** 64), "members": (79, 70, 0, 81)}
        for name, numbers in cases.items():
            for number in numbers:
                self.assertEqual(self.fault(self.header(**{name: number})), name)

    def test_two_faults(self):
        wrong = [("chain", 4), ("height", 6), ("time", 100), ("previous", 1), ("members", 70)]
        for first, second in itertools.combinations(wrong, 2):
            self.assertEqual(self.fault(self.header(**dict([second, first]))), first[0])

    def test_the_old_header_as_it_is(self):
        for name in chains.NAMES:
            number = getattr(self.old, name) + 1
            old = Header(**{**dict(zip(chains.NAMES, self.old.fields(), strict=True)), name: number})
            expected = {"chain": "chain", "height": "height", "time": "time"}.get(name, "previous")
            self.assertEqual(self.fault(self.header(), old), expected)
        self.assertEqual(self.fault(self.header(), self.header()), "height")
