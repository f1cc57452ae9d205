import itertools
import random
import unittest

from offing.client import Client
from offing.errors import BadBlock, OffingError
from offing.hashing import Hasher
from offing.headers import Block
from offing.node import Node
from offing.signing import Signer
from offing.trust import Policy, step_fault
from tests import chains

WIDTH = 32
LEVELS = 4
OPEN = Policy(10 ** 6, 0)
LATE = 10 ** 5
PARTS = ("chain", "height", "time", "previous", "state", "members_root", "following_root")


def team(*secrets):
    return chains.team(WIDTH, secrets, LEVELS)


def grown(secrets, voters=None, times=None, weights=None):
    """A node whose members at each height are those with these secrets, and who has voted."""
    lists = [chains.members_of(team(*one), weights) for one in secrets]
    times = times or [100 + 10 * height for height in range(len(secrets))]
    node = Node(Hasher(WIDTH), 3, times[0], lists[0], lists[1], {})
    for height in range(1, len(secrets) - 1):
        signers = secrets[height] if voters is None else voters[height]
        node.grow(times[height], {}, lists[height + 1], team(*signers))
    return node


def sliding(many, width=3):
    """The secrets of members of which one changes at each height."""
    return [tuple(range(height + 1, height + 1 + width)) for height in range(many)]


class Plain:
    """The rules of the chapter once more: who trusts what, by which steps."""

    def __init__(self, client):
        self.hasher, self.policy, self.halted = client.hasher, client.policy, client.halted
        self.trusted = {height: client.block(height) for height in client.heights()}
        self.steps = list(client.steps)

    def step(self, answers, base, height, now):
        if height not in answers:
            return "missing"
        block = answers[height]
        if block.header.height != height:
            return "other"
        fault = step_fault(self.hasher, self.policy, self.trusted[base], block, now)
        if fault is None:
            self.trusted[height] = block
            self.steps.append((base, block))
        return fault

    def halve(self, answers, base, height, now):
        while True:
            fault = self.step(answers, base, height, now)
            if fault is None:
                return None
            if fault != "overlap":
                return ("refused", fault, height)
            middle = base + (height - base) // 2
            refused = self.halve(answers, base, middle, now)
            if refused:
                return refused
            base = middle

    def barred(self, height):
        if self.halted:
            return ("refused", "halted", height)
        return ("refused", "below", height) if height < min(self.trusted) else None

    def base(self, height):
        return max(one for one in self.trusted if one < height)

    def reach(self, answers, height, now):
        if height in self.trusted:
            return ("trusted",)
        return self.barred(height) or self.halve(answers, self.base(height), height, now) or ("trusted",)

    def follow(self, answers, heights, now):
        for height in heights:
            if height in self.trusted:
                continue
            if self.barred(height):
                return self.barred(height)
            fault = self.step(answers, self.base(height), height, now)
            if fault:
                return ("refused", fault, height)
        return ("trusted",)


def state(client):
    return client.heights(), [client.block(height) for height in client.heights()], client.steps, client.halted


class Made(unittest.TestCase):
    def setUp(self):
        self.node = grown(sliding(5))

    def test_the_attributes(self):
        for height in (0, 2):
            hasher, policy = Hasher(WIDTH), Policy(9, 1)
            client = Client(hasher, policy, self.node.block(height))
            self.assertIs(client.hasher, hasher)
            self.assertIs(client.policy, policy)
            self.assertIs(client.halted, False)
            self.assertEqual(client.steps, [])
            self.assertEqual(client.heights(), [height])
            self.assertEqual(client.block(height), self.node.block(height))
            for other in (-1, height - 1, height + 1, 2 ** 70):
                self.assertIsNone(client.block(other))

    def test_the_first_block_needs_no_votes_and_no_previous(self):
        block = chains.changed(self.node.block(2), votes=(), previous=0, state=2 ** 90)
        self.assertEqual(Client(Hasher(WIDTH), OPEN, block).block(2), block)

    def test_blocks_that_are_refused(self):
        block = self.node.block(1)
        pair, other = block.members[::-1], chains.members_of(team(7, 8))
        for parts, fault in (
                ({"members": pair}, "members"), ({"members": ()}, "members"), ({"members": other}, "members"),
                ({"members_root": 5}, "members"), ({"following": block.following[::-1]}, "following"),
                ({"following": ()}, "following"), ({"following": other}, "following"),
                ({"following_root": 5}, "following"), ({"members": (), "following": ()}, "members"),
                ({"members": ((5, 0),), "members_root": chains.members_root(WIDTH, ((5, 0),))}, "members"),
                ({"following": ((5, 1), (5, 1)),
                  "following_root": chains.members_root(WIDTH, ((5, 1), (5, 1)))}, "following")):
            with self.assertRaises(BadBlock) as caught:
                Client(Hasher(WIDTH), OPEN, chains.changed(block, **parts))
            self.assertEqual(caught.exception.fault, fault)
            self.assertIsInstance(caught.exception, OffingError)

    def test_another_width_has_other_roots(self):
        with self.assertRaises(BadBlock) as caught:
            Client(Hasher(WIDTH + 1), OPEN, self.node.block(1))
        self.assertEqual(caught.exception.fault, "members")

    def test_what_others_do_to_their_blocks_is_not_trusted(self):
        node, first = self.node, self.node.block(0)
        client, answers = Client(Hasher(WIDTH), OPEN, first), node.answers()
        client.reach(answers, 1, LATE)
        for block in (first, answers[1], client.block(0), client.block(1)):
            block.header.state, block.members = 77, ()
        client.heights().append(9)
        self.assertEqual(client.heights(), [0, 1])
        self.assertEqual([client.block(height) for height in (0, 1)], [node.block(0), node.block(1)])
        self.assertEqual(client.steps, [(0, node.block(1))])

    def test_two_clients_have_nothing_in_common(self):
        one, other = [Client(Hasher(WIDTH), OPEN, self.node.block(0)) for _ in range(2)]
        one.reach(self.node.answers(), 2, LATE)
        one.halted = True
        self.assertEqual((other.heights(), other.steps, other.halted), ([0], [], False))


class Reaching(unittest.TestCase):
    def compare(self, client, answers, calls):
        """Let the client and the rules do the same; return what the client said."""
        plain, kept, said = Plain(client), dict(answers), []
        for name, goal, now in calls:
            passed = list(goal) if name == "follow" else goal
            answer = getattr(client, name)(answers, passed, now)
            self.assertEqual(passed, list(goal) if name == "follow" else goal)
            self.assertEqual(answer, getattr(plain, name)(answers, goal, now), (name, goal, now))
            self.assertIs(type(answer), tuple)
            self.assertEqual(client.heights(), sorted(plain.trusted))
            for height, block in plain.trusted.items():
                self.assertEqual(client.block(height), block)
            self.assertEqual(client.steps, plain.steps)
            self.assertTrue(all(type(step) is tuple for step in client.steps))
            said.append(answer)
        self.assertEqual(answers, kept)
        self.assertEqual(list(answers), list(kept))
        return said

    def test_one_step(self):
        node = grown([(1, 2, 3)] * 10)
        client = Client(Hasher(WIDTH), OPEN, node.block(0))
        self.compare(client, node.answers(), [("reach", 7, LATE)])
        self.assertEqual((client.heights(), client.steps), ([0, 7], [(0, node.block(7))]))

    def test_halving(self):
        node = grown(sliding(12))
        client = Client(Hasher(WIDTH), OPEN, node.block(0))
        said = self.compare(client, node.answers(), [("reach", 10, LATE)])
        self.assertEqual(said, [("trusted",)])
        # 10 and 5 are too far, 2 is not; from there 10, 6 and 4; from there 10, 7, 6 and so on.
        self.assertEqual([(base, block.header.height) for base, block in client.steps],
                         [(0, 2), (2, 3), (3, 5), (5, 7), (7, 8), (8, 10)])

    def test_the_middle_is_wanted_more_than_once(self):
        node = grown(sliding(14, 2))
        for height in range(1, 13):
            client = Client(Hasher(WIDTH), OPEN, node.block(0))
            self.assertEqual(self.compare(client, node.answers(), [("reach", height, LATE)]), [("trusted",)])
        wanted = []

        class Watched(dict):
            def get(self, key, default=None):
                wanted.append(key)
                return dict.get(self, key, default)

        client = Client(Hasher(WIDTH), OPEN, node.block(0))
        client.reach(Watched(node.answers()), 8, LATE)
        self.assertGreater(wanted.count(4), 1)
        self.assertGreater(wanted.count(8), 2)

    def test_below_a_trusted_height(self):
        node = grown([(1, 2, 3)] * 10)
        client = Client(Hasher(WIDTH), OPEN, node.block(2))
        self.compare(client, node.answers(), [
            ("reach", 8, LATE), ("reach", 5, LATE), ("reach", 6, LATE), ("reach", 1, LATE), ("reach", 0, LATE),
            ("follow", [7, 3, 5, 4], LATE), ("follow", [8, 1, 9], LATE), ("reach", -5, LATE)])
        self.assertEqual([(base, block.header.height) for base, block in client.steps],
                         [(2, 8), (2, 5), (5, 6), (6, 7), (2, 3), (3, 4)])

    def test_a_trusted_height_whatever_the_server_says(self):
        node = grown([(1, 2, 3)] * 6)
        client = Client(Hasher(WIDTH), Policy(50, 0), node.block(0))
        client.reach(node.answers(), 3, 140)
        other = chains.voted(WIDTH, chains.changed(node.block(3), state=9), team(1, 2, 3))
        for answers in ({}, {0: other, 3: other}, {3: node.block(1)}, node.answers()):
            for now in (0, 140, LATE):
                for halted in (False, True):
                    client.halted = halted
                    said = self.compare(client, answers, [
                        ("reach", 0, now), ("reach", 3, now), ("follow", [3, 0, 3], now), ("follow", [], now)])
                    self.assertEqual(said, [("trusted",)] * 4)
        self.assertEqual(client.heights(), [0, 3])

    def test_halted(self):
        node = grown([(1, 2, 3)] * 8)
        client = Client(Hasher(WIDTH), OPEN, node.block(2))
        client.reach(node.answers(), 4, LATE)
        client.halted = True
        for height in (-1, 0, 1, 3, 5, 6, 99):
            self.assertEqual(client.reach(node.answers(), height, LATE), ("refused", "halted", height))
            self.assertEqual(client.reach({}, height, LATE), ("refused", "halted", height))
            self.assertEqual(client.follow(node.answers(), [4, 2, height, 5], LATE), ("refused", "halted", height))
        self.assertEqual((client.heights(), len(client.steps), client.halted), ([2, 4], 1, True))
        client.halted = False
        self.assertEqual(client.reach(node.answers(), 5, LATE), ("trusted",))

    def test_below_all(self):
        node = grown([(1, 2, 3)] * 8)
        client = Client(Hasher(WIDTH), OPEN, node.block(3))
        for height in (2, 0, -1, -2 ** 70):
            self.assertEqual(client.reach(node.answers(), height, LATE), ("refused", "below", height))
            self.assertEqual(client.follow(node.answers(), [height], LATE), ("refused", "below", height))
        self.assertEqual(client.follow(node.answers(), [4, 2, 5], LATE), ("refused", "below", 2))
        self.assertEqual(client.heights(), [3, 4])

    def test_each_fault_ends_it(self):
        secrets = sliding(10)
        node = grown(secrets)
        good = node.answers()
        forged = {name: chains.voted(WIDTH, chains.changed(good[4], **parts), team(*secrets[4])) for name, parts in (
            ("chain", {"chain": 4}), ("members", {"members_root": 5}), ("following", {"following_root": 5}),
            ("time", {"time": 50}), ("future", {"time": 2 * LATE}))}
        forged.update({"header": chains.changed(good[4], state=-1), "votes": chains.changed(good[4], votes=()),
                       "other": good[3]})
        forged["previous"] = chains.voted(WIDTH, chains.changed(good[1], previous=1), team(*secrets[1]))
        forged["next"] = chains.block_of(
            WIDTH, (*good[1].header.fields()[:5], None, None), good[2].members, good[2].following, team(*secrets[2]))
        for fault, block in forged.items():
            height = 1 if fault in ("previous", "next") else 4
            for wanted in (height, 8) if height == 4 else (1, 3):
                client = Client(Hasher(WIDTH), OPEN, node.block(0))
                said = self.compare(client, {**good, height: block}, [("reach", wanted, LATE)])
                self.assertEqual(said, [("refused", fault, height)])
                self.assertNotIn(height, client.heights())
        answers = dict(good)
        del answers[4]
        client = Client(Hasher(WIDTH), OPEN, node.block(0))
        self.assertEqual(self.compare(client, answers, [("reach", 8, LATE)]), [("refused", "missing", 4)])
        client = Client(Hasher(WIDTH), Policy(50, 0), node.block(0))
        self.assertEqual(self.compare(client, good, [("reach", 8, 150)]), [("refused", "expired", 8)])

    def test_what_was_trusted_up_to_a_fault_stays(self):
        node = grown(sliding(12))
        answers = node.answers()
        del answers[8]
        client = Client(Hasher(WIDTH), OPEN, node.block(0))
        self.assertEqual(self.compare(client, answers, [("reach", 10, LATE)]), [("refused", "missing", 8)])
        self.assertEqual(client.heights(), [0, 2, 3, 5, 7])
        self.assertEqual(self.compare(client, node.answers(), [("reach", 10, LATE)]), [("trusted",)])
        self.assertEqual(client.heights(), [0, 2, 3, 5, 7, 8, 10])

    def test_an_overlap_that_does_not_end_a_reach_ends_a_follow(self):
        node = grown(sliding(8))
        client = Client(Hasher(WIDTH), OPEN, node.block(0))
        said = self.compare(client, node.answers(), [("follow", [1, 6, 2], LATE), ("follow", [3, 5, 6], LATE)])
        self.assertEqual(said, [("refused", "overlap", 6), ("trusted",)])
        self.assertEqual(client.heights(), [0, 1, 3, 5, 6])

    def test_a_base_that_is_expired(self):
        node = grown([(1, 2, 3)] * 8)
        client = Client(Hasher(WIDTH), Policy(35, 0), node.block(0))
        said = self.compare(client, node.answers(), [
            ("reach", 3, 134), ("reach", 2, 135), ("reach", 6, 164), ("reach", 6, 165), ("reach", 1, 200)])
        self.assertEqual(said, [("trusted",), ("refused", "expired", 2), ("trusted",), ("trusted",),
                                ("refused", "expired", 1)])

    def answers_by_chance(self, chance, node, secrets):
        """What a server says that is sometimes honest."""
        answers, teams = {}, sorted({secret for one in secrets for secret in one})
        for height in range(node.height() + 2):
            word, block = chance.randrange(12), node.block(min(height, node.height()))
            if word == 0:
                continue
            if word == 1:
                block = node.block(chance.randrange(node.height() + 1))
            elif word in (2, 3, 4):
                signers = team(*chance.sample(teams, chance.randint(1, 4)))
                if chance.randrange(2):
                    members = chains.members_of(signers)
                    block = chains.changed(
                        block, members=members, members_root=chains.members_root(WIDTH, members))
                block = chains.voted(WIDTH, chains.changed(block, state=chance.randrange(99)), signers)
            elif word == 5:
                block = chains.changed(block, **{chance.choice(PARTS): chance.choice((-1, 0, 5, 2 ** 70))})
            answers[height] = block
        return answers

    def test_answers_by_chance(self):
        chance, words = random.Random(1), {}
        for _ in range(50):
            secrets = [chance.sample(range(1, 7), chance.randint(1, 3)) for _ in range(12)]
            if chance.randrange(2):
                secrets = sliding(12, chance.randint(2, 4))
            node = grown([tuple(sorted(one)) for one in secrets])
            client = Client(Hasher(WIDTH), Policy(chance.choice((60, 10 ** 6)), chance.randrange(30)),
                            node.block(chance.choice((0, 0, 1, 3))))
            for _ in range(3):
                answers = self.answers_by_chance(chance, node, secrets)
                if chance.randrange(3) == 0:
                    answers = node.answers()
                calls = []
                for _ in range(2):
                    heights = chance.choices(range(-1, 13), k=3)
                    now = chance.choice((LATE, LATE, 150, 180))
                    calls.append(chance.choice((("reach", heights[0], now), ("follow", heights, now))))
                for answer in self.compare(client, answers, calls):
                    words[answer[1] if len(answer) > 1 else "trusted"] = True
                client.halted = chance.randrange(5) == 0
        expected = {"trusted", "missing", "other", "below", "votes", "expired", "overlap", "halted", "header"}
        self.assertLessEqual(expected, set(words))


class HonestServers(unittest.TestCase):
    def chains_by_chance(self, many):
        chance = random.Random(2)
        for _ in range(many):
            secrets = [tuple(chance.sample(range(1, 6), chance.randint(1, 3))) for _ in range(12)]
            if chance.randrange(2):
                secrets = sliding(12, chance.randint(1, 4))
            yield chance, grown(secrets)

    def test_every_height_is_reached(self):
        for chance, node in self.chains_by_chance(12):
            for start in (0, 3):
                base, drift = node.block(start).header, chance.randrange(50)
                for height in range(start + 1, node.height() + 1):
                    now = node.block(height).header.time - drift
                    # Just so long that the base is not yet expired.
                    policy = Policy(max(0, now + 1 - base.time), drift)
                    client = Client(node.hasher, policy, node.block(start))
                    self.assertEqual(client.reach(node.answers(), height, now), ("trusted",))
                    self.assertEqual(client.block(height), node.block(height))
                    for trusted in client.heights():
                        self.assertEqual(client.block(trusted), node.block(trusted))

    def test_the_bounds(self):
        node = grown([(1, 2, 3)] * 5)
        for period, drift, fault in ((30, 0, "expired"), (31, 0, None), (31, 5, None)):
            client = Client(node.hasher, Policy(period, drift), node.block(0))
            said = ("refused", fault, 3) if fault else ("trusted",)
            self.assertEqual(client.reach(node.answers(), 3, 130), said)
        for drift, fault in ((9, "future"), (10, None)):
            client = Client(node.hasher, Policy(1000, drift), node.block(0))
            said = ("refused", fault, 3) if fault else ("trusted",)
            self.assertEqual(client.reach(node.answers(), 3, 120), said)

    def test_plans(self):
        for _, node in self.chains_by_chance(5):
            for height in (3, 7, 10):
                plan = node.plan(0, height, OPEN, LATE)
                client = Client(node.hasher, OPEN, node.block(0))
                self.assertEqual(client.follow(node.answers(), plan, LATE), ("trusted",))
                self.assertEqual([block.header.height for _, block in client.steps], plan)
                self.assertEqual([base for base, _ in client.steps], [0, *plan[:-1]])
                if height < 8:
                    self.no_shorter(node, height, len(plan))

    def no_shorter(self, node, height, many):
        for fewer in range(1, many):
            for between in itertools.combinations(range(1, height), fewer - 1):
                client = Client(node.hasher, OPEN, node.block(0))
                said = client.follow(node.answers(), [*between, height], LATE)
                self.assertNotEqual(said, ("trusted",))

    def test_a_plan_has_no_more_steps_than_halving(self):
        for _, node in self.chains_by_chance(6):
            client = Client(node.hasher, OPEN, node.block(0))
            client.reach(node.answers(), 10, LATE)
            self.assertLessEqual(len(node.plan(0, 10, OPEN, LATE)), len(client.steps))


class Example(unittest.TestCase):
    def test_the_example(self):
        hasher = Hasher(64)
        signer = Signer(hasher, 1, 2)
        members = ((signer.public, 5),)
        node = Node(hasher, 3, 100, members, members, {})
        node.grow(110, {}, members, [signer])
        node.grow(120, {}, members, [signer])
        client = Client(hasher, Policy(1000, 5), node.block(0))
        self.assertEqual(
            [client.reach(node.answers(), 2, 130), client.heights(), len(client.steps),
             client.reach(node.answers(), 3, 130)],
            [("trusted",), [0, 2], 1, ("refused", "missing", 3)])
        self.assertEqual([client.follow(node.answers(), [1, 2], 130), client.heights()], [("trusted",), [0, 1, 2]])
        self.assertIs(type(client.block(1)), Block)
