import itertools
import random
import unittest

from offing.hashing import Hasher
from offing.headers import Block, Header, block_fault, follows_fault
from offing.node import Node
from offing.signing import Signer
from offing.trust import Policy, step_fault
from tests import chains, reference_maps

WIDTH = 32
LAST = 2 ** 32 - 1


class Plain:
    """A chain once more, put together block by block from digests."""

    def __init__(self, width, chain, time, members, following, pairs):
        self.width, self.chain = width, chain
        self.states = [dict(pairs)]
        fields = (chain, 0, time, 0, reference_maps.root(width, pairs), None, None)
        self.blocks = [chains.block_of(width, fields, members, following, [])]

    def grow(self, time, changes, following, signers):
        state = {key: value for key, value in {**self.states[-1], **changes}.items() if value is not None}
        last = self.blocks[-1]
        previous = chains.header_digest(self.width, last.header.fields())
        fields = (self.chain, len(self.blocks), time, previous, reference_maps.root(self.width, state), None, None)
        publics = [public for public, _ in last.following]
        voters = sorted((one for one in signers if one.public in publics), key=lambda one: one.public)
        self.blocks.append(chains.block_of(self.width, fields, last.following, following, voters))
        self.states.append(state)


def team(*secrets):
    return chains.team(WIDTH, secrets, 3)


class Chains(unittest.TestCase):
    def setUp(self):
        self.hasher = Hasher(WIDTH)

    def both(self, *arguments):
        return Node(self.hasher, *arguments), Plain(WIDTH, *arguments)

    def compare(self, node, plain):
        self.assertEqual(node.height(), len(plain.blocks) - 1)
        for height, block in enumerate(plain.blocks):
            found = node.block(height)
            self.assertIs(type(found), Block)
            self.assertEqual(found.header.fields(), block.header.fields())
            self.assertEqual(found, block)
            self.assertEqual(node.pairs_at(height), plain.states[height])
        self.assertEqual(node.answers(), dict(enumerate(plain.blocks)))
        self.assertEqual(list(node.answers()), list(range(len(plain.blocks))))

    def test_the_block_of_the_height_0(self):
        members, following = chains.members_of(team(1, 2), (3, 4)), chains.members_of(team(2))
        for pairs in ({}, {5: 50}, {0: 0, LAST: 2 ** 70, 6: 1}):
            node, plain = self.both(9, 100, members, following, pairs)
            self.assertIs(node.hasher, self.hasher)
            self.assertEqual((node.chain, node.height()), (9, 0))
            block = node.block(0)
            self.assertEqual((block.header.chain, block.header.height, block.header.time), (9, 0, 100))
            self.assertEqual((block.header.previous, block.votes), (0, ()))
            self.assertEqual((block.members, block.following), (members, following))
            self.compare(node, plain)

    def test_members_that_change(self):
        teams = [team(1, 2, 3), team(2, 3, 4), team(4), team(5, 1, 6, 2), team(1), team(3, 4)]
        lists = [chains.members_of(one, range(1, len(one) + 1)) for one in teams]
        node, plain = self.both(3, 100, lists[0], lists[1], {1: 5})
        for height in range(1, 5):
            for chain in (node, plain):
                chain.grow(100 + 7 * height, {height: height}, lists[height + 1], teams[height])
            self.compare(node, plain)
            block, before = node.block(height), node.block(height - 1)
            self.assertEqual((block.members, block.following), (lists[height], lists[height + 1]))
            self.assertIsNone(follows_fault(self.hasher, before.header, block.header))
            self.assertIsNone(block_fault(self.hasher, 3, block))

    def test_signers_that_are_members_or_not(self):
        everybody, members = team(1, 2, 3, 4, 5), chains.members_of(team(2, 3, 5))
        node, plain = self.both(3, 100, members, members, {})
        chance = random.Random(1)
        for height in range(1, 8):
            signers = chance.sample(everybody, chance.randint(0, 5))
            for chain in (node, plain):
                chain.grow(100 + height, {}, members, signers)
            votes = node.block(height).votes
            publics = [public for public, _ in votes]
            self.assertEqual(publics, sorted(one.public for one in signers if (one.public, 1) in members))
            self.assertEqual([signature[0] for _, signature in votes], [height] * len(votes))
        self.compare(node, plain)

    def test_those_of_its_height_sign(self):
        first, second, third = team(1, 2), team(3, 4), team(5, 6)
        node = Node(self.hasher, 3, 100, *[chains.members_of(one) for one in (first, second)], {})
        node.grow(101, {}, chains.members_of(third), first + second + third)
        self.assertEqual([public for public, _ in node.block(1).votes], [one.public for one in second])

    def test_the_order_of_the_votes(self):
        everybody = team(1, 2, 3)
        members = chains.members_of(everybody)
        blocks = []
        for signers in itertools.permutations(everybody):
            node = Node(self.hasher, 3, 100, members, members, {})
            node.grow(101, {}, members, list(signers))
            blocks.append(node.block(1))
        self.assertEqual([public for public, _ in blocks[0].votes], sorted(one.public for one in everybody))
        for block in blocks:
            self.assertEqual(block, blocks[0])

    def test_states(self):
        members = chains.members_of(team(1))
        node, plain = self.both(3, 100, members, members, {5: 50, 6: 60})
        for time, changes in enumerate((
                {}, {5: 51}, {7: 70, 6: None}, {8: None}, {5: None, 7: None}, {9: None, 0: 0, LAST: 2 ** 70},
                {0: None}), 101):
            for chain in (node, plain):
                chain.grow(time, changes, members, team(1))
        self.compare(node, plain)
        self.assertEqual([node.pairs_at(height) for height in range(8)], [
            {5: 50, 6: 60}, {5: 50, 6: 60}, {5: 51, 6: 60}, {5: 51, 7: 70}, {5: 51, 7: 70}, {}, {0: 0, LAST: 2 ** 70},
            {LAST: 2 ** 70}])

    def test_chains_by_chance(self):
        chance = random.Random(2)
        for _ in range(12):
            secrets = [chance.sample(range(1, 7), chance.randint(1, 4)) for _ in range(7)]
            lists = [chains.members_of(team(*one), [chance.randint(1, 9) for _ in one]) for one in secrets]
            pairs = {chance.randrange(4): chance.randrange(9) for _ in range(3)}
            node, plain = self.both(chance.randrange(5), chance.randrange(99), lists[0], lists[1], pairs)
            for height in range(1, 6):
                changes = {chance.randrange(5): chance.choice((None, chance.randrange(9))) for _ in range(3)}
                time, signers = node.block(height - 1).header.time + chance.randint(1, 9), team(*chance.choice(secrets))
                for chain in (node, plain):
                    chain.grow(time, changes, lists[height + 1], signers)
            self.compare(node, plain)

    def test_the_caller_may_change_what_was_passed(self):
        everybody = team(1, 2)
        members, following, pairs = list(chains.members_of(everybody)), list(chains.members_of(team(1))), {5: 50}
        node, plain = self.both(3, 100, tuple(members), tuple(following), dict(pairs))
        node = Node(self.hasher, 3, 100, members, following, pairs)
        changes, later, signers = {6: 60, 7: None}, list(members), list(everybody)
        plain.grow(101, dict(changes), tuple(members), list(everybody))
        node.grow(101, changes, later, signers)
        self.assertEqual((changes, later, signers), ({6: 60, 7: None}, members, everybody))
        for one in (members, following, later, signers):
            one.clear()
        for one in (pairs, changes):
            one[99] = 9
        self.compare(node, plain)

    def test_the_caller_may_change_what_is_returned(self):
        members = chains.members_of(team(1))
        node, plain = self.both(3, 100, members, members, {5: 50})
        for chain in (node, plain):
            chain.grow(101, {}, members, team(1))
        node.pairs_at(0)[5] = 51
        node.pairs_at(1).clear()
        answers = node.answers()
        answers[0].header.time = 7
        answers[0].votes = ((1, ()),)
        answers[1] = answers.pop(0)
        node.block(1).members = ()
        node.block(1).header.state = 5
        self.compare(node, plain)
        for chain in (node, plain):
            chain.grow(102, {}, members, team(1))
        self.compare(node, plain)

    def test_two_nodes_have_nothing_in_common(self):
        members = chains.members_of(team(1))
        one, other = Node(self.hasher, 3, 100, members, members, {}), Node(self.hasher, 3, 100, members, members, {})
        one.grow(101, {1: 2}, members, team(1))
        self.assertEqual((one.height(), other.height(), other.pairs_at(0)), (1, 0, {}))

    def test_beyond_the_heights_no_error_is_raised(self):
        members = chains.members_of(team(1))
        node = Node(self.hasher, 3, 100, members, members, {})
        for height in (-1, 1, 2 ** 70):
            self.assertIsNone(node.block(height))
            self.assertIsNone(node.pairs_at(height))
            self.assertIsNone(node.plan(height, height + 1, Policy(9, 9), 100))
        for height in range(1, 10):
            node.grow(100 + height, {}, members, team(1))
        self.assertEqual(node.height(), 9)

    def test_the_example(self):
        hasher = Hasher(64)
        signer = Signer(hasher, 1, 2)
        members = ((signer.public, 5),)
        node = Node(hasher, 3, 100, members, members, {})
        node.grow(110, {7: 1}, members, [signer])
        node.grow(120, {7: None}, members, [signer])
        self.assertEqual(
            [node.height(), node.pairs_at(1), node.pairs_at(2), node.block(2).header.time, len(node.block(2).votes)],
            [2, {7: 1}, {}, 120, 1])
        self.assertEqual([node.plan(0, 2, Policy(1000, 0), 120), node.plan(0, 2, Policy(1000, 0), 119)], [[2], None])


class Plans(unittest.TestCase):
    def grown(self, secrets, voters=None, times=None):
        """A node whose members at each height are those with these secrets, and who has voted."""
        lists = [chains.members_of(team(*one)) for one in secrets]
        times = times or [100 + 10 * height for height in range(len(secrets))]
        node = Node(Hasher(WIDTH), 3, times[0], lists[0], lists[1], {})
        for height in range(1, len(secrets) - 1):
            signers = secrets[height] if voters is None else voters[height]
            node.grow(times[height], {}, lists[height + 1], team(*signers))
        return node

    def compare(self, node, policy, now):
        """Compare all plans with a look at all ascending lists; return what the lengths of the plans are."""
        heights, found = range(node.height() + 1), {}
        allowed = {(one, other) for one, other in itertools.combinations(heights, 2) if step_fault(
            node.hasher, policy, node.block(one), node.block(other), now) is None}
        for start, height in itertools.combinations(heights, 2):
            plans = []
            for many in range(height - start):
                for between in itertools.combinations(range(start + 1, height), many):
                    row = [start, *between, height]
                    if all(step in allowed for step in zip(row, row[1:])):
                        plans.append(row[1:])
            expected = min(plans, key=lambda plan: (len(plan), plan), default=None)
            self.assertEqual(node.plan(start, height, policy, now), expected, (start, height, now))
            ties = len([plan for plan in plans if len(plan) == len(expected)])
            word = "none" if expected is None else (len(expected), ties > 1)
            found[word] = found.get(word, 0) + 1
        return found

    def test_members_that_change_slowly(self):
        for width in (2, 3, 4):
            node = self.grown([tuple(range(height + 1, height + 1 + width)) for height in range(9)])
            found = self.compare(node, Policy(1000, 0), 500)
            self.assertIn((1, False), found)
            self.assertIn((3, True), found)
            self.assertNotIn("none", found)

    def test_members_that_stay(self):
        node = self.grown([(1, 2, 3)] * 8)
        self.assertEqual(node.plan(0, 6, Policy(1000, 0), 500), [6])
        self.assertEqual(sorted(self.compare(node, Policy(1000, 0), 500)), [(1, False)])

    def test_blocks_that_are_not_signed(self):
        voters = [(), (1, 2, 3), (1, 2), (1, 2, 3), (), (2, 3, 1), (1,), (1, 2, 3)]
        node = self.grown([(1, 2, 3)] * 9, voters)
        found = self.compare(node, Policy(1000, 0), 500)
        self.assertEqual(sorted(map(str, found)), ["(1, False)", "none"])
        self.assertIsNone(node.plan(0, 2, Policy(1000, 0), 500))
        self.assertEqual(node.plan(2, 7, Policy(1000, 0), 500), [7])

    def test_a_plan_around_a_block_that_is_not_signed(self):
        secrets = [tuple(range(height + 1, height + 4)) for height in range(9)]
        for bad in (1, 4, 7):
            voters = [() if height == bad else secrets[height] for height in range(9)]
            found = self.compare(self.grown(secrets, voters), Policy(1000, 0), 500)
            self.assertIn("none", found)

    def test_expired_and_future_steps(self):
        node = self.grown([tuple(range(height + 1, height + 4)) for height in range(8)])
        words = set()
        for policy in (Policy(30, 0), Policy(45, 10), Policy(0, 100)):
            for now in (99, 119, 120, 129, 130, 145, 160):
                words.update(self.compare(node, policy, now))
        self.assertIn("none", words)
        self.assertGreater(len(words), 3)

    def test_chains_by_chance(self):
        chance, words = random.Random(4), set()
        for _ in range(15):
            secrets = [chance.sample(range(1, 6), chance.randint(1, 3)) for _ in range(8)]
            voters = [one if chance.randrange(5) else one[1:] for one in secrets]
            node = self.grown(secrets, voters)
            words.update(self.compare(node, Policy(chance.choice((40, 1000)), 0), chance.choice((130, 145, 500))))
        self.assertTrue({"none", (1, False), (2, False), (2, True), (3, False)} <= words, words)

    def test_the_least_of_the_shortest(self):
        # Of three members one changes at each height: one height may be left out, two not.
        node = self.grown([(height, height + 1, height + 2) for height in range(1, 9)])
        for height, plan in ((1, [1]), (2, [2]), (3, [1, 3]), (4, [2, 4]), (5, [1, 3, 5]), (6, [2, 4, 6])):
            self.assertEqual(node.plan(0, height, Policy(1000, 0), 500), plan)

    def test_no_step_backwards(self):
        node = self.grown([(1,)] * 5)
        self.assertIsNone(node.plan(2, 2, Policy(1000, 0), 500))
        self.assertIsNone(node.plan(2, 1, Policy(1000, 0), 500))

    def test_from_or_to_no_height_of_the_chain(self):
        node = self.grown([(1,)] * 6)
        for start, height in ((-1, 4), (-2, 4), (-3, 3), (-5, -1), (0, 5), (3, 2 ** 70), (5, 6)):
            self.assertIsNone(node.plan(start, height, Policy(1000, 0), 500))
        self.assertEqual(node.plan(0, 4, Policy(1000, 0), 500), [4])

    def test_the_list_is_new(self):
        node = self.grown([(1,)] * 5)
        node.plan(0, 3, Policy(1000, 0), 500).append(9)
        self.assertEqual(node.plan(0, 3, Policy(1000, 0), 500), [3])
        self.assertIs(type(node.plan(0, 3, Policy(1000, 0), 500)), list)
        self.assertEqual(node.block(3).header, Header(*node.block(3).header.fields()))
