import random
import unittest

from offing.client import Client
from offing.evidence import judge_steps, verdict_holds
from offing.hashing import Hasher
from offing.node import Node
from offing.signing import Signer
from offing.trust import Policy
from offing.witnesses import ask_witness, second_client
from tests import chains
from tests.test_client import grown, sliding, team, Plain

WIDTH = 32
OPEN = Policy(10 ** 6, 0)
LATE = 10 ** 5


def other_chain(node, secrets, height, state=77):
    """What a server says whose chain parts from that of a node at a height; the same members sign both."""
    answers = {at: node.block(at) for at in range(height)}
    for at in range(height, node.height() + 1):
        previous = chains.header_digest(WIDTH, answers[at - 1].header.fields())
        block = chains.changed(node.block(at), state=state, previous=previous)
        answers[at] = chains.voted(WIDTH, block, team(*secrets[at]))
    return answers


class Witnesses(unittest.TestCase):
    def setUp(self):
        self.secrets = sliding(10)
        self.node = grown(self.secrets)
        self.client = Client(Hasher(WIDTH), OPEN, self.node.block(1))
        self.client.reach(self.node.answers(), 6, LATE)
        self.kept = self.shape(self.client)

    def shape(self, client):
        return client.heights(), [client.block(height) for height in client.heights()], list(client.steps)

    def ask(self, answers, height, now=LATE):
        """Ask a witness; what is trusted, and what is passed, stays."""
        kept = dict(answers)
        answer = ask_witness(self.client, answers, height, now)
        self.assertEqual(answers, kept)
        self.assertEqual(self.shape(self.client), self.kept)
        self.assertIs(type(answer), tuple)
        return answer

    def test_silent(self):
        answers = self.node.answers()
        del answers[6]
        for said in ({}, answers):
            self.assertEqual(self.ask(said, 6), ("silent",))
            self.assertIs(self.client.halted, False)

    def test_the_same(self):
        for height in self.client.heights()[1:]:
            self.assertEqual(self.ask(self.node.answers(), height), ("same",))
            # The header alone counts, and no step is done.
            block = chains.changed(self.node.block(height), votes=(), members=(), following=())
            self.assertEqual(self.ask({height: block}, height, 0), ("same",))
        self.assertIs(self.client.halted, False)

    def test_a_fork(self):
        for parting in (2, 3, 4, 5, 6):
            answers = other_chain(self.node, self.secrets, parting)
            self.client.halted = False
            word, steps = self.ask(answers, 6)
            self.assertEqual(word, "fork")
            self.assertIs(self.client.halted, True)
            plain = Plain(second_client(self.client))
            self.assertEqual(plain.reach(answers, 6, LATE), ("trusted",))
            self.assertEqual(steps, plain.steps)
            self.assertIs(type(steps), list)
            self.assertEqual(steps[-1][1], answers[6])
            # The steps of both are judged: those of the witness are off the chain.
            self.assertIsNone(judge_steps(self.node, self.client.steps))
            self.assertIs(verdict_holds(self.node, judge_steps(self.node, steps)), True)

    def test_a_fork_at_a_height_below_others(self):
        answers = other_chain(self.node, self.secrets, 2)
        height = self.client.heights()[1]
        self.assertLess(height, 6)
        word, steps = self.ask(answers, height)
        self.assertEqual((word, steps[-1][1], self.client.halted), ("fork", answers[height], True))

    def test_the_steps_are_new(self):
        answers = other_chain(self.node, self.secrets, 2)
        first = self.ask(answers, 6)[1]
        kept = list(first)
        first.clear()
        self.assertEqual(self.ask(answers, 6)[1], kept)

    def test_refused(self):
        secrets, good = self.secrets, other_chain(self.node, self.secrets, 2)
        lone = chains.members_of(team(9))
        parts = {
            "header": {"time": -1}, "chain": {"chain": 4}, "members": {"members": ()}, "following": {"following": ()},
            "votes": {"votes": ()}, "other": {"height": 7}, "future": {"time": 2 * LATE}, "time": {"time": 0}}
        for fault, change in parts.items():
            block = chains.changed(good[6], **change)
            if fault in ("chain", "future", "time"):
                block = chains.voted(WIDTH, block, team(*secrets[6]))
            self.assertEqual(self.ask({**good, 6: block}, 6), ("refused", fault, 6))
        self.assertEqual(self.ask(good, 6, 10 ** 6 + 110), ("refused", "expired", 6))
        # It does not say the blocks that are needed on the way, or says others.
        self.assertEqual(self.ask({6: good[6]}, 6), ("refused", "missing", 3))
        self.assertEqual(self.ask({6: good[6], 3: good[4]}, 6), ("refused", "other", 3))
        stranger = chains.block_of(WIDTH, (*good[2].header.fields()[:5], None, None), lone, lone, team(9))
        self.assertEqual(self.ask({6: good[6], 3: stranger}, 6), ("refused", "other", 3))
        stranger = chains.block_of(WIDTH, (3, 3, 130, 5, 5, None, None), lone, lone, team(9))
        near = chains.block_of(WIDTH, (3, 2, 120, 5, 5, None, None), lone, lone, team(9))
        self.assertEqual(self.ask({6: good[6], 3: stranger}, 6), ("refused", "missing", 2))
        self.assertEqual(self.ask({6: good[6], 3: stranger, 2: near}, 6), ("refused", "previous", 2))
        near = chains.changed(near, previous=self.client_digest())
        near = chains.voted(WIDTH, near, team(9))
        self.assertEqual(self.ask({6: good[6], 3: stranger, 2: near}, 6), ("refused", "next", 2))
        self.assertIs(self.client.halted, False)

    def client_digest(self):
        return chains.header_digest(WIDTH, self.client.block(1).header.fields())

    def test_the_second_client(self):
        for halted in (False, True):
            self.client.halted = halted
            second = second_client(self.client)
            self.assertIs(type(second), Client)
            self.assertEqual((second.heights(), second.steps, second.halted), ([1], [], False))
            self.assertEqual(second.block(1), self.client.block(1))
            self.assertEqual((second.hasher.width, second.policy), (WIDTH, OPEN))
            self.assertEqual(second.reach(self.node.answers(), 6, LATE), ("trusted",))
            self.assertEqual(self.client.halted, halted)
            self.assertEqual(self.shape(self.client), self.kept)

    def test_a_client_that_is_halted(self):
        self.client.halted = True
        answers = other_chain(self.node, self.secrets, 2)
        self.assertEqual(self.ask(self.node.answers(), 6), ("same",))
        self.assertEqual(self.ask({}, 6), ("silent",))
        self.assertEqual(self.ask({6: answers[6]}, 6), ("refused", "missing", 3))
        self.assertEqual(self.ask(answers, 6)[0], "fork")
        self.assertIs(self.client.halted, True)

    def test_a_fork_is_the_end_of_trust(self):
        self.ask(other_chain(self.node, self.secrets, 5), 6)
        self.assertEqual(self.client.reach(self.node.answers(), 7, LATE), ("refused", "halted", 7))
        self.assertEqual(self.client.reach(self.node.answers(), 6, LATE), ("trusted",))

    def test_an_honest_witness(self):
        """Point 13.2: by an honest witness a client finds out whether it has left the chain."""
        chance, seen = random.Random(1), {}
        for _ in range(40):
            secrets = sliding(9, chance.randint(2, 4))
            if chance.randrange(2):
                secrets = [tuple(chance.sample(range(1, 6), chance.randint(1, 3))) for _ in range(9)]
            node = grown(secrets)
            lies = other_chain(node, secrets, chance.randrange(1, 8))
            start = chance.choice((0, 0, 1))
            client = Client(Hasher(WIDTH), Policy(100 + 10 * node.height(), 5), node.block(start))
            now = node.block(node.height()).header.time - chance.randrange(6)
            for height in sorted(chance.sample(range(start + 1, 8), 2)):
                client.reach(chance.choice((lies, node.answers())), height, now)
            for height in client.heights()[1:]:
                client.halted = False
                answer = ask_witness(client, node.answers(), height, now)
                same = client.block(height).header == node.block(height).header
                self.assertEqual(answer == ("same",), same)
                self.assertEqual(client.halted, not same)
                if not same:
                    self.assertEqual(answer[0], "fork")
                    self.assertIs(verdict_holds(node, judge_steps(node, client.steps)), True)
                    self.assertIsNone(judge_steps(node, answer[1]))
                seen[same] = True
        self.assertEqual(len(seen), 2)


class Example(unittest.TestCase):
    def test_the_example(self):
        hasher = Hasher(64)
        signer = Signer(hasher, 1, 2)
        members = ((signer.public, 5),)
        node = Node(hasher, 3, 100, members, members, {})
        node.grow(110, {}, members, [signer])
        client = Client(hasher, Policy(1000, 5), node.block(0))
        self.assertEqual(client.reach(node.answers(), 1, 120), ("trusted",))
        self.assertEqual([ask_witness(client, node.answers(), 1, 120), ask_witness(client, {}, 1, 120)],
                         [("same",), ("silent",)])
