import itertools
import random
import unittest

from offing.client import Client
from offing.evidence import double_signers, judge_step, judge_steps, verdict_holds
from offing.hashing import Hasher, is_collision
from offing.headers import Block, Header, block_fault, header_digest, vote_message
from offing.node import Node
from offing.signing import Signer, signing_break, verify
from offing.trust import Policy, step_fault
from offing.validators import members_root, more_than
from tests import chains, reference

OPEN = Policy(10 ** 6, 0)
LATE = 10 ** 5


def grown(width, secrets, weights=None, levels=3):
    teams = [chains.team(width, one, levels) for one in secrets]
    # At small widths two signers may have one public.
    teams = [list({one.public: one for one in team}.values()) for team in teams]
    lists = [chains.members_of(one, weights) for one in teams]
    node = Node(Hasher(width), 3, 100, lists[0], lists[1], {})
    for height in range(1, len(secrets) - 1):
        node.grow(100 + 10 * height, {height: height}, lists[height + 1], teams[height])
    return node


def flat(members):
    return (len(members), *[number for pair in members for number in pair])


def plain_signers(width, block):
    message = chains.message_of(width, block.header.fields())
    return {public for public, signature in block.votes if public in dict(block.members)
            and reference.valid(width, public, message, signature)}


def plain_verdict(width, blocks, start, block):
    """The verdict on a step to a block by the rules, for the blocks of a chain."""
    fields, height = block.header.fields(), block.header.height
    own = blocks[height] if height < len(blocks) else None
    if own and own.header.fields() == fields:
        for mine, told in ((own.members, block.members), (own.following, block.following)):
            if mine != told:
                return ("collision", (9, flat(mine)), (9, flat(told)))
        return None
    expected = blocks[start].following
    if height == start + 1 and block.members != expected:
        return ("collision", (9, flat(expected)), (9, flat(block.members)))
    for other in blocks:
        theirs = other.header.fields()
        if chains.message_of(width, theirs) == chains.message_of(width, fields):
            one, two = chains.header_digest(width, theirs), chains.header_digest(width, fields)
            if one == two:
                return ("collision", (8, theirs), (8, fields))
            return ("collision", (10, (one,)), (10, (two,)))
    publics = plain_signers(width, block) & set(dict(expected))
    return ("culprits", start, tuple(sorted(publics)), block)


def blocks_of(node):
    return [node.block(height) for height in range(node.height() + 1)]


def lists_of_one_root(width, members, many=1, publics=None):
    """Other members in order with the same root, found by trying weights."""
    root, found = chains.members_root(width, members), []
    publics = publics or [public for public, _ in members]
    for weights in itertools.product(range(1, 400), repeat=min(2, len(publics))):
        other = tuple(zip(publics, (*weights, *[1] * (len(publics) - len(weights)))))
        if other != members and chains.members_root(width, other) == root:
            found.append(other)
            if len(found) == many:
                break
    return found


def of_one_vote(width, block, wanted, **parts):
    """The block with such a state that what is voted for it is what is voted for a wanted header."""
    message = chains.message_of(width, wanted.fields())
    for state in range(10 ** 5):
        other = chains.changed(block, state=state, **parts)
        if other.header != wanted and chains.message_of(width, other.header.fields()) == message:
            yield other


class Steps(unittest.TestCase):
    def setUp(self):
        self.node = grown(8, [(1, 2, 3), (1, 2, 3), (2, 3, 4), (2, 3, 4), (2, 3, 4), (3, 4, 5), (3, 4, 5)])
        self.hasher, self.width = self.node.hasher, 8
        self.blocks = blocks_of(self.node)

    def judged(self, start, block):
        """The verdict on a step, and whether the step has a fault."""
        verdict = judge_step(self.node, start, block)
        self.assertEqual(verdict, plain_verdict(self.width, self.blocks, start, block))
        self.assertEqual(judge_steps(self.node, [(start, block)]), verdict)
        fault = step_fault(self.hasher, OPEN, self.blocks[start], block, LATE)
        if fault is None and verdict is not None:
            self.assertIs(verdict_holds(self.node, verdict), True)
        return verdict, fault

    def test_a_block_of_the_chain(self):
        for start, height in itertools.combinations(range(len(self.blocks)), 2):
            block = self.node.block(height)
            self.assertIsNone(self.judged(start, block)[0])
            self.assertIsNone(self.judged(start, chains.changed(block, votes=()))[0])
            self.assertIsNone(self.judged(start, chains.changed(block, votes=((9, (1,)), *block.votes)))[0])

    def test_its_header_with_other_lists_of_the_same_root(self):
        taken = 0
        for height, start in ((1, 0), (2, 1), (3, 1), (4, 2), (5, 3)):
            block = self.blocks[height]
            mine = lists_of_one_root(8, block.members)[0]
            others = lists_of_one_root(8, block.following)[0]
            for parts, own, told in (
                    ({"members": mine}, block.members, mine),
                    ({"following": others}, block.following, others),
                    ({"members": mine, "following": others}, block.members, mine)):
                verdict, fault = self.judged(start, chains.changed(block, **parts))
                self.assertEqual(verdict, ("collision", (9, flat(own)), (9, flat(told))))
                taken += fault is None
        self.assertGreater(taken, 4)

    def test_other_members_behind_the_base(self):
        taken = 0
        for start in range(5):
            base, block = self.blocks[start], self.blocks[start + 1]
            for other in lists_of_one_root(8, block.members, 3):
                voters = [one for one in chains.team(8, range(1, 6), 3) if one.public in dict(other)]
                forged = chains.voted(8, chains.changed(block, members=other, time=107 + 10 * start), voters)
                verdict, fault = self.judged(start, forged)
                self.assertEqual(verdict, ("collision", (9, flat(base.following)), (9, flat(other))))
                taken += fault is None
                self.assertNotEqual(self.judged(start - 1, forged)[0], verdict) if start else None
        self.assertGreater(taken, 4)

    def test_other_members_behind_the_last_height_of_the_chain(self):
        last = self.blocks[-1]
        other = lists_of_one_root(8, last.following)[0]
        fields = (3, len(self.blocks), 200, chains.header_digest(8, last.header.fields()), 5, None, None)
        for members, verdict in ((other, "collision"), (last.following, "culprits")):
            block = chains.block_of(8, fields, members, members, chains.team(8, (3, 4, 5), 3), 7)
            found, fault = self.judged(len(self.blocks) - 1, block)
            self.assertEqual((found[0], fault), (verdict, None))
        self.assertEqual(found[1:3], (5, tuple(public for public, _ in last.following)))

    def test_the_vote_of_a_header_of_the_chain(self):
        kinds = {}
        for start, height in ((0, 1), (0, 2), (1, 3), (2, 4), (1, 5)):
            block = self.blocks[height]
            for other in itertools.islice(of_one_vote(8, block, block.header), 12):
                verdict, fault = self.judged(start, other)
                same = chains.header_digest(8, other.header.fields()) == chains.header_digest(8, block.header.fields())
                if same:
                    self.assertEqual(verdict, ("collision", (8, block.header.fields()), (8, other.header.fields())))
                kinds[(verdict[1][0], fault is None)] = True
        self.assertLessEqual({(8, True), (10, True)}, set(kinds))

    def test_the_vote_of_the_least_height(self):
        found = {}
        for number in range(200):
            node = grown(4, [(1, 2, number % 7 + 3)] * 7)
            blocks, block = blocks_of(node), node.block(5)
            messages = [chains.message_of(4, one.header.fields()) for one in blocks]
            other = chains.changed(block, state=number + 77)
            message = chains.message_of(4, other.header.fields())
            verdict = judge_step(node, 0, other)
            self.assertEqual(verdict, plain_verdict(4, blocks, 0, other))
            if message in messages:
                own = blocks[messages.index(message)].header.fields()
                one, two = [chains.header_digest(4, fields) for fields in (own, other.header.fields())]
                self.assertEqual(verdict[1:], ((8, own), (8, other.header.fields())) if one == two
                                 else ((10, (one,)), (10, (two,))))
                found[(messages.index(message), messages.count(message) > 1)] = True
        # Also the header of the height 0, for which nobody votes.
        self.assertLessEqual({(0, True), (0, False), (1, True), (2, True)}, set(found))

    def test_culprits(self):
        for start, height in ((0, 1), (0, 2), (1, 3), (2, 4), (1, 4), (3, 5)):
            block = self.blocks[height]
            members = chains.team(8, range(1, 6), 3)
            members = [one for one in members if one.public in dict(block.members)]
            for voters in (members, members[1:], members[:1], []):
                forged = chains.voted(8, chains.changed(block, state=11), voters)
                verdict, fault = self.judged(start, forged)
                publics = tuple(one.public for one in voters if one.public in dict(self.blocks[start].following))
                self.assertEqual(verdict, ("culprits", start, publics, forged))
                self.assertEqual(fault is None, voters == members)
                self.assertEqual(verdict_holds(self.node, verdict), len(publics) > 1)

    def test_blocks_beyond_the_chain(self):
        members = self.blocks[-1].following
        for height in (6, 9, 2 ** 70):
            fields = (3, height, 300, 5, 5, None, None)
            block = chains.block_of(8, fields, members, members, chains.team(8, (3, 4, 5), 3), 7)
            verdict, fault = self.judged(4, block)
            self.assertEqual((verdict[:2], fault), (("culprits", 4), None))

    def test_blocks_by_chance(self):
        chance, kinds = random.Random(1), {}
        for number in range(250):
            width = chance.choice((4, 5, 6))
            if number % 10 == 0:
                secrets = [chance.sample(range(1, 6), chance.randint(1, 3)) for _ in range(7)]
            node = grown(width, secrets)
            blocks = blocks_of(node)
            for _ in range(4):
                start = chance.randrange(len(blocks))
                block = blocks[chance.randrange(len(blocks))]
                parts = {chance.choice(("state", "time", "height", "chain")): chance.randrange(7)}
                if chance.randrange(3) == 0:
                    parts["members"] = chance.choice(blocks).members
                if chance.randrange(3) == 0:
                    parts["following"] = chance.choice(blocks).members
                if chance.randrange(4) == 0:
                    parts.pop(next(iter(parts)))
                team = chains.team(width, chance.sample(range(1, 6), 3), 3)
                other = chains.changed(block, **parts)
                other = chains.voted(width, other, team) if chance.randrange(2) else other
                verdict = judge_step(node, start, other)
                self.assertEqual(verdict, plain_verdict(width, blocks, start, other))
                word = verdict and (verdict[0], verdict[1][0] if verdict[0] == "collision" else None)
                kinds[word] = True
        self.assertEqual(set(kinds), {None, ("collision", 8), ("collision", 9), ("collision", 10), ("culprits", None)})

    def test_the_first_step_that_is_not_the_chains(self):
        good = [(0, self.blocks[1]), (1, self.blocks[2]), (2, self.blocks[4])]
        bad = [(start, chains.voted(8, chains.changed(self.blocks[height], state=77), chains.team(8, (2, 3, 4), 3)))
               for start, height in ((1, 2), (2, 4), (4, 5))]
        self.assertIsNone(judge_steps(self.node, []))
        self.assertIsNone(judge_steps(self.node, good))
        for many in range(4):
            for row in itertools.permutations(bad):
                steps = good[:many] + list(row)
                kept = list(steps)
                self.assertEqual(judge_steps(self.node, steps), judge_step(self.node, *row[0]))
                self.assertEqual(steps, kept)

    def test_another_start(self):
        """Nothing is said of a start that the chain does not have, but no error is raised."""
        for start in (-1, 6, 2 ** 70):
            self.assertEqual(verdict_holds(self.node, judge_step(self.node, start, self.blocks[1])), False)
            forged = chains.changed(self.blocks[1], state=77)
            self.assertEqual(verdict_holds(self.node, judge_step(self.node, start, forged)), False)


class Verdicts(unittest.TestCase):
    def setUp(self):
        self.node = grown(16, [(1, 2, 3, 4), (1, 2, 3, 4), (2, 3, 4, 5), (2, 3, 4, 5), (2, 3, 4, 5)], (1, 1, 1, 1))
        self.blocks = blocks_of(self.node)
        team = [one for one in chains.team(16, (2, 3, 4, 5), 3)]
        self.forged = chains.voted(16, chains.changed(self.blocks[2], state=77), team)
        self.true = judge_step(self.node, 0, self.forged)

    def holds(self, verdict):
        found = verdict_holds(self.node, verdict)
        self.assertIs(type(found), bool)
        if verdict[0] == "culprits":
            self.assertEqual(found, self.plain(verdict))
        return found

    def plain(self, verdict):
        _, height, publics, block = verdict
        fields = [one.header.fields() for one in self.blocks]
        if height not in range(len(self.blocks)) or min(block.header.fields()) < 0 or block.header.fields() in fields:
            return False
        message = chains.message_of(16, block.header.fields())
        if message in [chains.message_of(16, one) for one in fields]:
            return False
        members = dict(self.blocks[height].following)
        named = set(publics)
        if not named <= plain_signers(16, block) & set(members):
            return False
        return sum(members[public] for public in named) * 3 > sum(members.values())

    def test_true_ones(self):
        self.assertEqual(len(self.true[2]), 3)
        self.assertIs(self.holds(self.true), True)
        for start in (1, 2, 3):
            self.assertIs(self.holds(judge_step(self.node, start, self.forged)), True)

    def test_other_publics(self):
        publics = self.true[2]
        own = chains.signer(16, 1, 3).public
        stranger = chains.signer(16, 5, 3).public
        for wrong, expected in (
                (publics[1:], True), (publics[:1], False), ((), False), (publics[::-1], True),
                (publics + publics[:1], True), (publics[:1] * 3, False), ((*publics, own), False),
                ((*publics, stranger), False), ((*publics, 12345), False), ((*publics, -1), False),
                ((-2 ** 70, 2 ** 70), False)):
            self.assertIs(self.holds(("culprits", 0, wrong, self.forged)), expected, wrong)

    def test_just_a_third_is_not_enough(self):
        node = grown(16, [(1, 2, 3)] * 5)
        forged = chains.voted(16, chains.changed(node.block(2), state=77), chains.team(16, (1, 2, 3), 3))
        publics = tuple(public for public, _ in forged.members)
        for many in range(4):
            self.assertIs(verdict_holds(node, ("culprits", 0, publics[:many], forged)), many > 1)

    def test_other_heights(self):
        for height in (1, 2, 3):
            publics = tuple(public for public, _ in self.blocks[2].members)
            self.assertIs(self.holds(("culprits", height, publics, self.forged)), True)
        self.assertIs(self.holds(("culprits", 0, publics, self.forged)), False)
        for height in (-1, -3, 4, 5, 2 ** 70, -2 ** 70):
            self.assertIs(self.holds(("culprits", height, self.true[2], self.forged)), False)

    def test_blocks_of_the_chain(self):
        for block in self.blocks:
            publics = tuple(sorted(plain_signers(16, block)))
            for other in (block, chains.changed(block, members=self.forged.members)):
                self.assertIs(self.holds(("culprits", 2, publics, other)), False)

    def test_numbers_that_are_negative(self):
        for name in ("chain", "height", "time", "previous", "state", "members_root", "following_root"):
            for number in (-1, -2 ** 70):
                block = chains.changed(self.forged, **{name: number})
                self.assertIs(self.holds(("culprits", 0, self.true[2], block)), False)
                # Whatever digest the program may make of such a header, nobody can have signed it.
                message = vote_message(self.node.hasher, block.header)
                votes = [(one.public, one.sign(2, message)) for one in chains.team(16, (2, 3, 4, 5), 3)]
                block = chains.changed(block, votes=votes)
                self.assertIs(self.holds(("culprits", 0, self.true[2], block)), False)

    def test_what_is_voted_for_a_header_of_the_chain(self):
        node = grown(8, [(1, 2, 3)] * 6)
        for other in itertools.islice(of_one_vote(8, node.block(3), node.block(2).header), 5):
            block = chains.changed(other, votes=node.block(2).votes)
            publics = tuple(public for public, _ in block.members)
            self.assertEqual(plain_signers(8, block), set(publics))
            self.assertIs(verdict_holds(node, ("culprits", 0, publics, block)), False)

    def test_votes_and_members_of_the_block(self):
        for parts in ({"votes": ()}, {"votes": self.forged.votes[:1]}, {"votes": self.blocks[2].votes},
                      {"members": ()}, {"members": self.forged.members[:1]}, {"state": 78}):
            self.assertIs(self.holds(("culprits", 0, self.true[2], chains.changed(self.forged, **parts))), False)
        # Other numbers in the block than its header and its signers play no part.
        for parts in ({"following": ((-5, -5),)}, {"votes": ((-1, (-7,)), *self.forged.votes)},
                      {"members": ((-5, -5), *self.forged.members)}):
            self.assertIs(self.holds(("culprits", 0, self.true[2], chains.changed(self.forged, **parts))), True)

    def test_collisions(self):
        node = grown(8, [(1, 2, 3)] * 4)
        one = (9, (5,))
        other = next((9, (k,)) for k in range(10 ** 4) if k != 5 and reference.digest(8, 9, [k]) ==
                     reference.digest(8, 9, [5]))
        for first, second, expected in (
                (one, other, True), (other, one, True), (one, one, False), (one, (9, (6,)), False),
                (one, (8, other[1]), reference.digest(8, 8, other[1]) == reference.digest(8, 9, [5])),
                ((-1, (5,)), other, False), ((16, (5,)), (16, (5,)), False), (one, (9, (-5,)), False)):
            self.assertIs(verdict_holds(node, ("collision", first, second)), expected)
        # The same pair is none at another width.
        self.assertIs(verdict_holds(self.node, ("collision", one, other)), False)

    def test_no_verdict_does_not_hold(self):
        self.assertIs(verdict_holds(self.node, None), False)


class Lies(unittest.TestCase):
    """Point 11.3: whatever a server says, the verdict tells what has happened."""

    def forged(self, chance, node, height, before, signers):
        """A block that a server makes up for a height, behind another one."""
        width, own = node.hasher.width, node.block(height)
        block = own
        if before is not None:
            block = chains.changed(block, previous=chains.header_digest(width, before.header.fields()))
            if chance.randrange(2):
                block = chains.changed(block, members=before.following, members_root=before.header.following)
        word = chance.randrange(7)
        if word == 0:
            team = chains.team(width, chance.sample(range(1, 8), 2), 3)
            publics = sorted({one.public for one in team})
            for other in lists_of_one_root(width, block.members, 1, publics):
                return chains.voted(width, chains.changed(block, members=other, state=chance.randrange(9)), team)
        if word == 1:
            for other in lists_of_one_root(width, own.following):
                return chains.changed(own, following=other)
        if word == 2:
            wanted = chance.choice(blocks_of(node))
            other = next(of_one_vote(width, block, wanted.header, time=own.header.time + chance.randrange(2)))
            return chains.changed(other, votes=wanted.votes)
        block = chains.changed(block, state=chance.randrange(50))
        if word == 3:
            return chains.changed(block, votes=self.guessed(chance, node.hasher, block))
        return chains.voted(width, block, signers)

    def guessed(self, chance, hasher, block):
        """Signatures that are found by trying."""
        message, votes = chains.message_of(hasher.width, block.header.fields()), []
        many = len(chains.signer(hasher.width, 1, 3).sign(0, 0))
        for public, _ in block.members:
            for _ in range(300):
                signature = (chance.randrange(8), *[chance.randrange(2 ** hasher.width) for _ in range(many - 1)])
                if verify(hasher, public, message, signature):
                    votes.append((public, signature))
                    break
        return tuple(votes)

    def test_a_client_of_the_chain(self):
        chance, kinds = random.Random(3), {}
        for number in range(260):
            width = chance.choice((4, 4, 5))
            secrets = [tuple(chance.sample(range(1, 8), chance.choice((1, 3)))) for _ in range(7)]
            if chance.randrange(2):
                secrets = [secrets[0]] * 7
            node = grown(width, secrets)
            start = chance.choice((0, 0, 1))
            liars = chains.team(width, chance.sample(range(1, 8), 4), 3)
            answers, before = {}, None
            for height in range(1, 6):
                block = node.block(height)
                if chance.randrange(3):
                    block = self.forged(chance, node, height, before, liars)
                answers[height] = before = block
            client = Client(node.hasher, Policy(chance.choice((35, 10 ** 6)), 0), node.block(start))
            for _ in range(3):
                now = chance.choice((150, 200))
                steps = len(client.steps)
                client.reach(answers, chance.randrange(1, 6), now)
                client.follow(answers, sorted(chance.sample(range(1, 6), 2)), now)
                for base, _ in client.steps[steps:]:
                    self.assertLess(now, client.block(base).header.time + client.policy.period)
            kind = self.check(node, client, liars)
            kinds[kind] = kinds.get(kind, 0) + 1
        self.assertLessEqual({"none", "culprits", 8, 9, 10, "guessed"}, set(kinds), kinds)

    def check(self, node, client, liars):
        verdict = judge_steps(node, client.steps)
        off = [height for height in client.heights() if chains.changed(client.block(height), votes=()) !=
               chains.changed(node.block(height), votes=())]
        self.assertEqual(verdict is None, not off)
        if verdict is None:
            return "none"
        self.assertIs(verdict_holds(node, verdict), True)
        self.assertEqual(verdict, next(found for found in (
            plain_verdict(node.hasher.width, blocks_of(node), *step) for step in client.steps) if found))
        if verdict[0] == "collision":
            self.assertIs(is_collision(node.hasher, verdict), True)
            return verdict[1][0]
        return self.check_culprits(node, liars, *verdict[1:])

    def check_culprits(self, node, liars, height, publics, block):
        self.assertTrue(more_than(node.block(height).following, publics, 1, 3))
        message, kind = chains.message_of(node.hasher.width, block.header.fields()), "culprits"
        for signer in chains.team(node.hasher.width, range(1, 8), 3):
            if signer.public not in publics or signer.public in [one.public for one in liars]:
                continue
            # An honest one has signed its headers of the chain, each with the key of the height.
            signed = {at: chains.message_of(node.hasher.width, one.header.fields())
                      for at, one in enumerate(blocks_of(node)) if signer.public in dict(one.votes)}
            for public, signature in block.votes:
                if public == signer.public and verify(node.hasher, public, message, signature):
                    self.assertIsNotNone(signing_break(signer, signed, message, signature))
                    kind = "guessed"
        return kind


class Doubles(unittest.TestCase):
    def setUp(self):
        self.hasher = Hasher(32)
        self.team = chains.team(32, (1, 2, 3, 4), 3)
        self.members = chains.members_of(self.team)

    def block(self, state, voters, height=2, members=None, chain=3):
        members = members or self.members
        return chains.block_of(32, (chain, height, 120, 7, state, None, None), members, members, voters)

    def test_who_has_signed_both(self):
        for one in range(16):
            for other in (0, 3, 6, 11, 15):
                teams = [[signer for at, signer in enumerate(self.team) if bits >> at & 1] for bits in (one, other)]
                blocks = [self.block(state, voters) for state, voters in enumerate(teams)]
                expected = tuple(signer.public for signer in teams[0] if signer in teams[1])
                self.assertEqual(double_signers(self.hasher, *blocks), expected)
                self.assertEqual(double_signers(self.hasher, *blocks[::-1]), expected)

    def test_one_header(self):
        for voters in (self.team, self.team[:2]):
            block = self.block(1, self.team)
            self.assertEqual(double_signers(self.hasher, block, self.block(1, voters)), ())
            self.assertEqual(double_signers(self.hasher, block, chains.changed(block, members=())), ())

    def test_two_heights(self):
        blocks = [self.block(1, self.team, height) for height in (2, 3)]
        self.assertEqual(double_signers(self.hasher, *blocks), ())

    def test_headers_that_differ_in_one_number(self):
        block, publics = self.block(1, self.team), tuple(one.public for one in self.team)
        for name in ("chain", "time", "previous", "state", "members_root", "following_root"):
            other = chains.voted(32, chains.changed(block, **{name: 5}), self.team)
            self.assertEqual(double_signers(self.hasher, block, other), publics)

    def test_votes_that_are_wrong(self):
        one, other = self.block(1, self.team), self.block(2, self.team)
        for votes in (one.votes, (), ((self.team[0].public, ()),),
                      tuple((public, signature[::-1]) for public, signature in other.votes)):
            self.assertEqual(double_signers(self.hasher, one, chains.changed(other, votes=votes)), ())
        mixed = one.votes[:2] + other.votes[2:]
        self.assertEqual(double_signers(self.hasher, one, chains.changed(other, votes=mixed)),
                         tuple(signer.public for signer in self.team[2:]))
        again = chains.changed(other, votes=other.votes[::-1] + other.votes)
        self.assertEqual(double_signers(self.hasher, one, again), tuple(signer.public for signer in self.team))

    def test_members_of_one_block_alone(self):
        one = self.block(1, self.team)
        for members in (self.members[:2], self.members[1:], ((5, 1),)):
            other = self.block(2, self.team, members=members)
            publics = tuple(public for public, _ in members if public in dict(self.members))
            self.assertEqual(double_signers(self.hasher, one, other), publics)
            self.assertEqual(double_signers(self.hasher, other, one), publics)

    def test_two_blocks_without_fault(self):
        chance = random.Random(5)
        for _ in range(40):
            members = tuple((public, chance.randint(1, 9)) for public, _ in self.members)
            pair = [self.block(state, chance.sample(self.team, chance.randint(2, 4)), members=members)
                    for state in (1, 2)]
            if all(block_fault(self.hasher, 3, block) is None for block in pair):
                self.assertTrue(more_than(members, double_signers(self.hasher, *pair), 1, 3))


class Example(unittest.TestCase):
    def test_the_example(self):
        hasher = Hasher(64)
        signer = Signer(hasher, 1, 2)
        members = ((signer.public, 5),)
        node = Node(hasher, 3, 100, members, members, {})
        node.grow(110, {}, members, [signer])
        root = members_root(hasher, members)
        header = Header(3, 1, 111, header_digest(hasher, node.block(0).header), 9, root, root)
        block = Block(header, members, members, [(signer.public, signer.sign(3, vote_message(hasher, header)))])
        client = Client(hasher, Policy(1000, 5), node.block(0))
        self.assertEqual(
            [client.reach({1: block}, 1, 120),
             judge_steps(node, client.steps) == ("culprits", 0, (signer.public,), block)], [("trusted",), True])
        self.assertIs(verdict_holds(node, judge_steps(node, client.steps)), True)
