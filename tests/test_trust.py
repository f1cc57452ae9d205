import itertools
import unittest

from offing.hashing import Hasher
from offing.headers import Block, Header
from offing.node import Node
from offing.signing import Signer
from offing.trust import Policy, step_fault
from tests import chains

WIDTH = 64
TRUSTED_TIME = 100
NOW = 150


class Policies(unittest.TestCase):
    def test_the_attributes(self):
        policy = Policy(1000, 5)
        self.assertEqual((policy.period, policy.drift), (1000, 5))
        named = Policy(drift=5, period=1000)
        self.assertEqual((named.period, named.drift), (1000, 5))

    def test_equal_policies(self):
        self.assertTrue(Policy(1000, 5) == Policy(1000, 5))
        self.assertFalse(Policy(1000, 5) != Policy(1000, 5))
        for other in (Policy(1000, 6), Policy(1001, 5), Policy(5, 1000), Policy(0, 0)):
            self.assertIs(Policy(1000, 5) == other, False)
            self.assertIs(other == Policy(1000, 5), False)
            self.assertIs(Policy(1000, 5) != other, True)

    def test_other_values(self):
        for other in (None, 0, (1000, 5), [1000, 5], "policy", Header(0, 0, 0, 0, 0, 0, 0), Hasher(64)):
            self.assertIs(Policy(1000, 5) == other, False)
            self.assertIs(other == Policy(1000, 5), False)


class Steps(unittest.TestCase):
    """A trusted block of the height 2; one of the height 3, and one of the height 5, to which steps are allowed."""

    def setUp(self):
        self.hasher = Hasher(WIDTH)
        self.now, self.later = chains.team(WIDTH, (1, 2, 3), 3), chains.team(WIDTH, (2, 3, 4), 3)
        self.far = chains.team(WIDTH, (3, 4, 5), 3)
        self.members, self.following = chains.members_of(self.now), chains.members_of(self.later, (1, 2, 3))
        self.trusted = chains.block_of(
            WIDTH, (7, 2, TRUSTED_TIME, 5, 6, None, None), self.members, self.following, self.now)
        previous = chains.header_digest(WIDTH, self.trusted.header.fields())
        self.far_members = chains.members_of(self.far, (2, 2, 2))
        self.next = chains.block_of(
            WIDTH, (7, 3, 110, previous, 8, None, None), self.following, self.far_members, self.later)
        self.skip = chains.block_of(
            WIDTH, (7, 5, 120, 77, 8, None, None), self.far_members, self.members, self.far)

    def fault(self, block, policy=Policy(1000, 10), now=NOW):
        kept = (self.trusted.header.fields(), block.header.fields(), policy.period, policy.drift)
        found = step_fault(self.hasher, policy, self.trusted, block, now)
        self.assertEqual(kept, (self.trusted.header.fields(), block.header.fields(), policy.period, policy.drift))
        return found

    def changed(self, block, signers=None, **parts):
        """The block with other parts, and votes for the header that it has then."""
        block = chains.changed(block, **parts)
        if "votes" in parts or min(block.header.fields()) < 0:
            return block
        return chains.voted(WIDTH, block, signers or (self.later if block.members == self.following else self.far))

    def both(self):
        return (self.next, self.skip)

    def test_no_fault(self):
        for block in self.both():
            self.assertIsNone(self.fault(block))
        self.assertIsNone(self.fault(self.changed(self.skip, height=4)))
        self.assertIsNone(self.fault(self.changed(self.skip, height=7)))
        self.assertIsNone(self.fault(self.changed(self.skip, previous=0)))

    def test_expired(self):
        for block in self.both():
            for period in (51, 52, 1000, 2 ** 70):
                self.assertIsNone(self.fault(block, Policy(period, 10)))
            for period in (50, 49, 1, 0):
                self.assertEqual(self.fault(block, Policy(period, 10)), "expired")
            self.assertIsNone(self.fault(block, Policy(30, 10), TRUSTED_TIME + 29))
            self.assertEqual(self.fault(block, Policy(30, 10), TRUSTED_TIME + 30), "expired")
            self.assertEqual(self.fault(block, Policy(0, 100), TRUSTED_TIME), "expired")
            self.assertEqual(self.fault(block, Policy(0, 100), 2 ** 70), "expired")
            self.assertIsNone(self.fault(block, Policy(0, 100), TRUSTED_TIME - 1))

    def test_faults_of_the_block_for_itself(self):
        for block in self.both():
            self.assertEqual(self.fault(self.changed(block, state=-1)), "header")
            self.assertEqual(self.fault(self.changed(block, chain=8)), "chain")
            self.assertEqual(self.fault(self.changed(block, members=())), "members")
            self.assertEqual(self.fault(self.changed(block, members_root=5)), "members")
            self.assertEqual(self.fault(self.changed(block, following=())), "following")
            self.assertEqual(self.fault(self.changed(block, following_root=5)), "following")
            self.assertEqual(self.fault(self.changed(block, votes=())), "votes")
        # Just two thirds of its members, and all the weight that an overlap needs.
        self.assertEqual(self.fault(self.changed(self.skip, [one for one in self.far if one in self.later])), "votes")

    def test_negative_numbers_in_the_other_block(self):
        for block in self.both():
            for name in ("chain", "height", "time", "previous", "state", "members_root", "following_root"):
                for number in (-1, -2 ** 70):
                    self.assertEqual(self.fault(self.changed(block, **{name: number})), "header")
            for pair in ((-1, -1), (2 ** 90, -2 ** 90)):
                self.assertEqual(self.fault(self.changed(block, members=(pair,))), "members")
                self.assertEqual(self.fault(self.changed(block, following=(pair, pair))), "following")
                votes = ((self.far[0].public, pair), (-5, pair), (self.far[1].public, ()))
                self.assertEqual(self.fault(self.changed(block, votes=votes)), "votes")

    def test_height(self):
        for block in self.both():
            for height in (2, 1, 0):
                self.assertEqual(self.fault(self.changed(block, height=height)), "height")
        self.assertEqual(self.fault(self.trusted), "height")

    def test_time(self):
        for block in self.both():
            for time in (100, 99, 0):
                self.assertEqual(self.fault(self.changed(block, time=time)), "time")
            self.assertIsNone(self.fault(self.changed(block, time=101)))

    def test_future(self):
        for block in self.both():
            for drift in (0, 1, 10):
                time = block.header.time
                self.assertIsNone(self.fault(block, Policy(1000, drift), time - drift))
                self.assertEqual(self.fault(block, Policy(1000, drift), time - drift - 1), "future")
                self.assertEqual(self.fault(block, Policy(1000, drift), -2 ** 70), "future")
            self.assertEqual(self.fault(self.changed(block, time=NOW + 11)), "future")
            self.assertIsNone(self.fault(self.changed(block, time=NOW + 10)))

    def test_the_next_height(self):
        previous = self.next.header.previous
        for other in (previous + 1, previous ^ 1, 0, 5, previous + 2 ** 64):
            self.assertEqual(self.fault(self.changed(self.next, previous=other)), "previous")
        for members, signers in ((self.far_members, self.far), (self.members, self.now),
                                 (chains.members_of(self.later, (1, 2, 4)), self.later)):
            root = chains.members_root(WIDTH, members)
            block = self.changed(self.next, signers, members=members, members_root=root)
            self.assertEqual(self.fault(block), "next")
            self.assertIsNone(self.fault(self.changed(block, signers, height=4)))

    def test_overlap(self):
        two, three, four = [chains.signer(WIDTH, secret, 3) for secret in (2, 3, 4)]
        weights = dict(self.following)
        five, six = chains.team(WIDTH, (5, 6), 3)
        for there in itertools.product((False, True), repeat=3):
            voters = list(itertools.compress((two, three, four), there))
            team = sorted([five, six, *voters], key=lambda one: one.public)
            members = chains.members_of(team, [50 if one in (five, six) else 1 for one in team])
            block = self.changed(
                self.skip, team, members=members, members_root=chains.members_root(WIDTH, members))
            share = sum(weights[one.public] for one in voters)
            self.assertEqual(self.fault(block), None if share > 2 else "overlap")

    def test_overlap_counts_signers_of_the_block_alone(self):
        heavy, five = self.later[2], chains.signer(WIDTH, 5, 3)
        self.assertEqual(dict(self.following)[heavy.public], 3)
        for team, weights, voters, fault in (
                ([five], [1], [*self.later, five], "overlap"),
                (sorted([heavy, five], key=lambda one: one.public), None, [*self.later, five], None),
                (sorted([heavy, five], key=lambda one: one.public), None, [five], "overlap")):
            members = chains.members_of(team, weights or [9 if one == five else 1 for one in team])
            root = chains.members_root(WIDTH, members)
            block = self.changed(self.skip, voters, members=members, members_root=root)
            self.assertEqual(self.fault(block), fault)

    def test_overlap_counts_those_of_the_next_height(self):
        one = chains.signer(WIDTH, 1, 3)
        members = chains.members_of([one])
        block = self.changed(
            self.skip, [one], members=members, members_root=chains.members_root(WIDTH, members))
        self.assertEqual(self.fault(block), "overlap")

    def test_of_two_faults_the_first(self):
        parts = {
            "expired": {"period": 50}, "header": {"state": -1}, "chain": {"chain": 8}, "members": {"members": ()},
            "following": {"following": ()}, "votes": {"votes": ()}, "height": {"height": 2}, "time": {"time": 100},
            "future": {"now": 90}, "previous": {"previous": 4},
            "next": {"members": self.far_members, "members_root": chains.members_root(WIDTH, self.far_members)}}
        for block, words in ((self.next, list(parts)), (self.skip, list(parts)[:9])):
            for pair in itertools.combinations(words, 2):
                wrong = {**parts[pair[1]], **parts[pair[0]]}
                if pair == ("expired", "future"):
                    wrong = {"period": 50, "time": 2 ** 70}
                policy = Policy(wrong.pop("period", 1000), 0 if "future" in pair else 10)
                now = wrong.pop("now", NOW)
                self.assertEqual(self.fault(self.changed(block, **wrong), policy, now), pair[0], pair)

    def test_overlap_is_the_last_fault(self):
        members = chains.members_of([chains.signer(WIDTH, 5, 3)])
        wrong = {"members": members, "members_root": chains.members_root(WIDTH, members)}
        block = self.changed(self.skip, self.far, **wrong)
        self.assertEqual(self.fault(block), "overlap")
        for word, part in (("header", {"state": -1}), ("chain", {"chain": 8}), ("members", {"members": ()}),
                           ("following", {"following": ()}), ("votes", {"votes": ()}), ("height", {"height": 1}),
                           ("time", {"time": 100}), ("future", {"time": NOW + 11})):
            self.assertEqual(self.fault(self.changed(block, self.far, **part)), word)
        self.assertEqual(self.fault(block, Policy(50, 10)), "expired")
        self.assertEqual(self.fault(self.changed(block, self.far, height=3)), "previous")

    def test_votes_are_for_the_header(self):
        votes = chains.votes_of(WIDTH, self.skip.header.fields(), self.far)
        self.assertEqual(self.fault(chains.changed(self.skip, state=9, votes=votes)), "votes")
        block = Block(self.next.header, self.next.members, self.next.following, self.skip.votes)
        self.assertEqual(self.fault(block), "votes")

    def test_the_example(self):
        hasher = Hasher(64)
        signer = Signer(hasher, 1, 2)
        members = ((signer.public, 5),)
        node = Node(hasher, 3, 100, members, members, {})
        node.grow(110, {}, members, [signer])
        node.grow(120, {}, members, [])
        self.assertEqual(
            [step_fault(hasher, Policy(10, 0), node.block(0), node.block(1), now) for now in (108, 109, 110)],
            ["future", "future", "expired"])
        self.assertEqual(
            [step_fault(hasher, Policy(50, 9), node.block(0), node.block(k), 108) for k in (0, 1, 2)],
            ["votes", None, "votes"])
