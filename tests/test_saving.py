import itertools
import random
import unittest

from offing.client import Client
from offing.errors import BadNumbers
from offing.hashing import Hasher
from offing.headers import Block
from offing.node import Node
from offing.numbers import numbers_of_block
from offing.saving import loaded_client, loaded_node, saved_client, saved_node
from offing.trust import Policy
from tests import chains
from tests.reference_saving import client_fault, node_fault

OPEN = Policy(10 ** 6, 0)
LATE = 10 ** 5


def team(width, secrets, levels=3):
    """Signers of different publics: at small widths two may have one."""
    return list({one.public: one for one in chains.team(width, secrets, levels)}.values())


def grown(width, secrets, voters=None, changes=()):
    teams = [team(width, one) for one in secrets]
    lists = [chains.members_of(one) for one in teams]
    node = Node(Hasher(width), 3, 100, lists[0], lists[1], {5: 50, 9: 90})
    for height in range(1, len(secrets) - 1):
        signers = teams[height] if voters is None else team(width, voters[height])
        node.grow(100 + 10 * height, dict(changes[height:height + 1]), lists[height + 1], signers)
    return node


def flat_members(members):
    return [len(members)] + [number for pair in members for number in pair]


def flat_block(block):
    numbers = [*block.header.fields(), *flat_members(block.members), *flat_members(block.following), len(block.votes)]
    for public, signature in block.votes:
        numbers += [public, len(signature), *signature]
    return numbers


def flat_client(width, policy, halted, first, steps):
    numbers = [width, policy.period, policy.drift, halted, *flat_block(first), len(steps)]
    for base, block in steps:
        numbers += [base, *flat_block(block)]
    return numbers


def flat_node(width, chain, rows):
    numbers = [width, chain, len(rows)]
    for block, pairs in rows:
        numbers += [*flat_block(block), len(pairs)] + [number for pair in pairs for number in pair]
    return numbers


class Loading(unittest.TestCase):
    def word(self, load, numbers):
        """What loading raises, or None; the numbers stay."""
        kept = list(numbers)
        try:
            load(numbers)
        except BadNumbers as bad:
            return bad.why
        finally:
            self.assertEqual(numbers, kept)
        return None

    def compare(self, load, save, fault, numbers):
        """Compare the fault of numbers with the rules; without a fault, the same list is saved again."""
        word = self.word(load, numbers)
        self.assertEqual(word, fault(numbers))
        if word is None:
            self.assertEqual(save(load(numbers)), numbers)
        return word

    def spoilt(self, chance, numbers):
        """Numbers of which one is changed, left out or put in, or some are put in another place."""
        row, at = list(numbers), chance.randrange(len(numbers))
        word = chance.randrange(8)
        if word < 4:
            row[at] += chance.choice((1, -1, 1, -1, 2 ** 64, -2 ** 64, 7))
        elif word == 4:
            row[at] = chance.choice((0, -1, 1, 2, -2 ** 70))
        elif word == 5:
            del row[at]
        elif word == 6:
            row.insert(at, chance.choice((0, 1, row[at], -1)))
        else:
            row = row[:at] if chance.randrange(2) else row + [chance.randrange(3)]
        return row


class Clients(Loading):
    def setUp(self):
        self.node = grown(32, [(1, 2, 3), (1, 2, 3), (2, 3, 4), (3, 4, 5), (4, 5, 6), (4, 5, 6), (4, 5, 6), (6, 7), (7,)])
        self.first = self.node.block(0)

    def made(self, start=0, policy=OPEN, heights=(5, 7), followed=(1,), halted=False):
        client = Client(self.node.hasher, policy, self.node.block(start))
        for height in heights:
            client.reach(self.node.answers(), height, LATE)
        client.follow(self.node.answers(), followed, LATE)
        client.halted = halted
        return client

    def same(self, one, other):
        self.assertEqual(one.heights(), other.heights())
        for height in one.heights():
            self.assertEqual(one.block(height), other.block(height))
        self.assertEqual(one.steps, other.steps)
        self.assertEqual((one.hasher.width, one.policy, one.halted), (other.hasher.width, other.policy, other.halted))
        self.assertIs(type(other.halted), bool)

    def check(self, client):
        numbers = saved_client(client)
        first = client.block(client.heights()[0])
        self.assertEqual(numbers, flat_client(
            client.hasher.width, client.policy, int(client.halted), first, client.steps))
        self.assertTrue(all(type(number) is int for number in numbers))
        loaded = loaded_client(numbers)
        self.assertIs(type(loaded), Client)
        self.same(client, loaded)
        self.assertEqual(saved_client(loaded), numbers)
        return loaded

    def test_clients(self):
        for start, heights, followed, halted in itertools.product(
                (0, 1, 3), ((), (4,), (7,), (5, 6)), ((), (1, 2), (6, 4)), (False, True)):
            for policy in (OPEN, Policy(10 ** 6, 0), Policy(99999, 12345)):
                self.check(self.made(start, policy, heights, followed, halted))

    def test_it_goes_on_alike(self):
        for halted in (False, True):
            client = self.made(heights=(4,), followed=(2,), halted=halted)
            loaded = self.check(client)
            for name, goal in (("reach", 7), ("follow", [1, 3, 5]), ("reach", -1), ("reach", 6), ("reach", 99)):
                self.assertEqual(getattr(client, name)(self.node.answers(), goal, LATE),
                                 getattr(loaded, name)(self.node.answers(), goal, LATE))
                self.same(client, loaded)
            self.assertEqual(saved_client(client), saved_client(loaded))

    def test_loading_twice_gives_two(self):
        numbers = saved_client(self.made())
        one, other = loaded_client(numbers), loaded_client(numbers)
        one.reach(self.node.answers(), 6, LATE)
        one.halted = True
        self.assertEqual(saved_client(other), numbers)
        saved_client(other).append(5)
        self.assertEqual(saved_client(other), numbers)

    def test_the_first_block_is_the_lowest(self):
        block = chains.changed(self.node.block(3), votes=(), state=2 ** 80, previous=9)
        client = Client(self.node.hasher, OPEN, block)
        self.assertEqual(saved_client(client), [32, 10 ** 6, 0, 0, *numbers_of_block(block), 0])
        self.check(client)

    def test_widths(self):
        for width in (4, 5, 128):
            node = grown(width, [(1,)] * 5)
            client = Client(node.hasher, OPEN, node.block(0))
            self.assertEqual(client.reach(node.answers(), 3, LATE), ("trusted",))
            self.check(client)
        for width in (3, 129, 0, -1, -2 ** 70, 2 ** 70):
            numbers = flat_client(width, OPEN, 0, self.first, [])
            self.assertEqual(self.word(loaded_client, numbers), "width")

    def fault(self, width=32, policy=OPEN, halted=0, first=None, steps=(), more=()):
        numbers = flat_client(width, policy, halted, first or self.first, steps) + list(more)
        return self.compare(loaded_client, saved_client, client_fault, numbers)

    def test_single_faults(self):
        block = self.node.block
        self.assertIsNone(self.fault())
        for policy in (Policy(-1, 0), Policy(0, -1), Policy(-2 ** 70, -2 ** 70)):
            self.assertEqual(self.fault(policy=policy), "policy")
        self.assertIsNone(self.fault(policy=Policy(0, 0)))
        for halted in (2, -1, 2 ** 70):
            self.assertEqual(self.fault(halted=halted), "halted")
        for name in ("chain", "height", "time", "previous", "state", "members_root", "following_root"):
            self.assertEqual(self.fault(first=chains.changed(self.first, **{name: -1})), "block")
        for parts in ({"members": ()}, {"members": self.first.members[::-1]}, {"members": ((-5, 1),)},
                      {"following": ((5, 0),)}, {"following_root": 0}, {"members_root": 0}):
            self.assertEqual(self.fault(first=chains.changed(self.first, **parts)), "block")
        for steps, word in (
                ([(0, block(1))], None), ([(0, block(2))], None), ([(1, block(2))], "base"), ([(-1, block(1))], "base"),
                ([(0, block(0))], "base"), ([(0, block(1)), (0, block(2))], "base"),
                ([(0, block(1)), (0, block(1))], "base"), ([(0, block(2)), (0, block(1))], None),
                ([(0, block(2)), (0, block(2))], "base"), ([(0, block(2)), (2, block(1))], "base"),
                ([(0, block(2)), (2, block(2))], "base"), ([(0, block(4))], "step"),
                ([(0, chains.changed(block(1), votes=()))], "step"), ([(0, chains.changed(block(1), state=9))], "step"),
                ([(0, chains.changed(block(1), height=-1))], "base"), ([(0, chains.changed(block(1), state=-1))], "step"),
                ([(0, chains.changed(block(2), members=()))], "step")):
            self.assertEqual(self.fault(steps=steps), word, word)
        self.assertEqual(self.fault(first=block(3), steps=[(3, block(2))]), "base")

    def test_the_time_of_a_step(self):
        for drift in (0, 5, 10 ** 6):
            for gap, word in ((10 - drift, "step"), (11 - drift, None)):
                if gap >= 0:
                    self.assertEqual(self.fault(policy=Policy(gap, drift), steps=[(0, self.node.block(1))]), word)
        # With a drift beyond the period, a step may be done before the base's own time.
        self.assertIsNone(self.fault(policy=Policy(0, 11), steps=[(0, self.node.block(1))]))
        self.assertEqual(self.fault(policy=Policy(0, 10), steps=[(0, self.node.block(1))]), "step")

    def test_faults_of_reading(self):
        numbers = saved_client(self.made())
        for many in range(len(numbers)):
            self.assertIn(self.word(loaded_client, numbers[:many]), ("end", "count"))
        for many in range(4):
            self.assertEqual(self.word(loaded_client, numbers[:many]), "end")
        self.assertEqual(self.word(loaded_client, numbers + [0]), "rest")
        at = 4 + len(numbers_of_block(self.first))
        for count, word in ((-1, "count"), (2 ** 70, "count"), (len(numbers) - at, "count"),
                            (len(numbers) - at - 1, "end"), (0, "rest")):
            self.assertEqual(self.word(loaded_client, numbers[:at] + [count] + numbers[at + 1:]), word)

    def test_of_two_faults_the_first(self):
        bad, block = chains.changed(self.first, members=()), self.node.block
        parts = {"rest": {"more": [0]}, "width": {"width": 3}, "policy": {"policy": Policy(-1, 0)},
                 "halted": {"halted": 2}, "block": {"first": bad}, "base": {"steps": [(1, block(1))]},
                 "step": {"steps": [(0, chains.changed(block(1), votes=()))]}}
        for first, second in itertools.combinations(parts, 2):
            if (first, second) != ("base", "step"):
                self.assertEqual(self.fault(**{**parts[second], **parts[first]}), first)
        wrong = chains.changed(block(1), votes=())
        self.assertEqual(self.fault(steps=[(1, wrong)]), "base")
        self.assertEqual(self.fault(steps=[(0, wrong), (5, block(2))]), "step")
        self.assertEqual(self.fault(steps=[(0, block(1)), (0, block(2)), (0, wrong)]), "base")

    def test_a_step_twice_or_in_another_place(self):
        client = self.made(heights=(5, 7), followed=(1, 6))
        steps, words = client.steps, set()
        self.assertGreater(len(steps), 4)
        for at in range(len(steps)):
            for to in range(len(steps) + 1):
                words.add(self.fault(steps=steps[:to] + [steps[at]] + steps[to:]))
                moved = steps[:at] + steps[at + 1:]
                words.add(self.fault(steps=moved[:to] + [steps[at]] + moved[to:]))
            words.add(self.fault(steps=steps[:at] + steps[at + 1:]))
        self.assertEqual(words, {None, "base"})

    def test_numbers_by_chance(self):
        chance, seen = random.Random(1), {}
        for number in range(1600):
            if number % 20 == 0:
                width = chance.choice((4, 4, 5, 6))
                secrets = [tuple(chance.sample(range(1, 6), chance.randint(1, 3))) for _ in range(7)]
                node = grown(width, secrets)
                client = Client(node.hasher, Policy(chance.randrange(40), chance.randrange(20)), node.block(0))
                for height in chance.sample(range(1, 6), 3):
                    client.reach(node.answers(), height, chance.choice((100, 110, 120)))
                numbers = saved_client(client)
                self.assertIsNone(client_fault(numbers))
            spoilt = self.spoilt(chance, numbers)
            if spoilt and chance.randrange(5) == 0:
                spoilt = self.spoilt(chance, spoilt)
            word = self.compare(loaded_client, saved_client, client_fault, spoilt)
            seen[word] = seen.get(word, 0) + 1
        self.assertEqual(set(seen), {None, "end", "count", "rest", "width", "policy", "halted", "block", "base", "step"})


class Nodes(Loading):
    def setUp(self):
        self.secrets = [(1, 2, 3), (1, 2, 3), (2, 3, 4), (3, 4, 5), (4, 5, 6), (4, 5, 6), (6, 7)]
        self.voters = [(), (1, 2, 3), (2,), (3, 4, 5), (), (4, 5, 6, 7)]
        changes = [(), (5, None), (6, 60), (9, None), (6, 61), (6, None)]
        self.node = grown(32, self.secrets, self.voters, changes)
        self.rows = [(self.node.block(height), sorted(self.node.pairs_at(height).items()))
                     for height in range(self.node.height() + 1)]

    def same(self, one, other):
        self.assertEqual((one.hasher.width, one.chain, one.height()), (other.hasher.width, other.chain, other.height()))
        self.assertEqual(one.answers(), other.answers())
        for height in range(one.height() + 1):
            self.assertEqual(one.pairs_at(height), other.pairs_at(height))

    def check(self, node, rows):
        numbers = saved_node(node)
        self.assertEqual(numbers, flat_node(node.hasher.width, node.chain, rows))
        loaded = loaded_node(numbers)
        self.assertIs(type(loaded), Node)
        self.same(node, loaded)
        self.assertEqual(saved_node(loaded), numbers)
        return loaded

    def test_nodes(self):
        self.assertEqual(self.rows[-1][1], [])
        self.check(self.node, self.rows)
        for width in (4, 5, 128):
            for many in (2, 5):
                node = grown(width, [(1, 2)] * many)
                self.check(node, [(node.block(height), [(5, 50), (9, 90)]) for height in range(many - 1)])

    def test_keys_ascend_in_whatever_order_they_came(self):
        node = Node(Hasher(32), 3, 100, ((5, 1),), ((5, 1),), {9: 90, 2 ** 32 - 1: 2 ** 70, 0: 0})
        numbers = saved_node(node)
        self.assertEqual(numbers[-7:], [3, 0, 0, 9, 90, 2 ** 32 - 1, 2 ** 70])
        self.assertEqual(saved_node(loaded_node(numbers)), numbers)

    def test_it_goes_on_alike(self):
        node, loaded = self.node, loaded_node(saved_node(self.node))
        for one in (node, loaded):
            one.grow(999, {5: 1, 6: None}, self.rows[0][0].members, chains.team(32, (6, 7), 3))
        self.same(node, loaded)
        self.assertEqual(saved_node(node), saved_node(loaded))
        self.assertEqual(node.plan(0, 3, OPEN, LATE), loaded.plan(0, 3, OPEN, LATE))
        loaded.pairs_at(0).clear()
        loaded.block(0).votes = ()
        loaded.answers().clear()
        self.same(node, loaded)

    def test_loading_twice_gives_two(self):
        numbers = saved_node(self.node)
        one, other = loaded_node(numbers), loaded_node(numbers)
        one.grow(999, {5: 1}, self.rows[0][0].members, [])
        self.assertEqual(saved_node(other), numbers)
        self.same(self.node, other)

    def fault(self, rows, width=32, chain=3, more=()):
        numbers = flat_node(width, chain, rows) + list(more)
        return self.compare(loaded_node, saved_node, node_fault, numbers)

    def with_block(self, at, **parts):
        rows = list(self.rows)
        rows[at] = (chains.changed(rows[at][0], **parts), rows[at][1])
        return rows

    def with_pairs(self, at, pairs):
        rows = list(self.rows)
        rows[at] = (rows[at][0], pairs)
        return rows

    def test_width_and_blocks(self):
        for width in (3, 129, 0, -1, 2 ** 70):
            self.assertEqual(self.fault(self.rows, width), "width")
            self.assertEqual(self.fault([], width), "width")
        for chain in (3, 0, -1):
            self.assertEqual(self.fault([], chain=chain), "blocks")

    def test_blocks(self):
        for at in range(6):
            for name in ("chain", "height", "time", "previous", "members_root", "following_root"):
                for number in (-1, -2 ** 70):
                    self.assertEqual(self.fault(self.with_block(at, **{name: number})), "block")
            self.assertEqual(self.fault(self.with_block(at, state=-1)), "block")
            self.assertEqual(self.fault(self.with_block(at, chain=4)), "block")
            self.assertEqual(self.fault(self.with_block(at, height=at + 1)), "block")
            self.assertEqual(self.fault(self.with_block(at, previous=5)), "block")
            for parts in ({"members": ()}, {"following": ()}, {"members": self.rows[at][0].members[::-1]},
                          {"members_root": 5}, {"following_root": 5}):
                self.assertEqual(self.fault(self.with_block(at, **parts)), "block")
        for chain in (4, -1):
            self.assertEqual(self.fault(self.rows, chain=chain), "block")
        self.assertEqual(self.fault(self.with_block(0, votes=self.rows[1][0].votes)), "block")
        for parts in ({"height": 1}, {"previous": 1}, {"votes": self.rows[1][0].votes}, {"votes": ((5, ()),)}):
            self.assertEqual(self.fault(self.with_block(0, **parts)[:1]), "block")
        for at in range(1, 6):
            self.assertEqual(self.fault(self.with_block(at, time=100 + 10 * at - 10)), "block")
        self.assertEqual(self.fault(self.rows[1:]), "block")
        self.assertEqual(self.fault(self.rows[:2] + self.rows[3:]), "block")
        self.assertEqual(self.fault(self.rows[:2] + self.rows[1:]), "block")
        self.assertEqual(self.fault([self.rows[1], self.rows[0]]), "block")
        self.assertIsNone(self.fault(self.rows[:1]))

    def test_members_of_the_next_height_with_the_same_root(self):
        node, found = grown(8, [(1, 2, 3)] * 3), 0
        rows = [(node.block(height), [(5, 50), (9, 90)]) for height in (0, 1)]
        for weight in range(2, 1500):
            members = (*rows[1][0].members[:2], (rows[1][0].members[2][0], weight))
            if chains.members_root(8, members) == rows[1][0].header.members:
                block = chains.changed(rows[1][0], members=members)
                self.assertEqual(self.fault([rows[0], (block, rows[1][1])], 8), "block")
                found += 1
        self.assertGreater(found, 2)
        self.assertIsNone(self.fault(rows, 8))

    def test_votes(self):
        block = self.rows[1][0]
        votes = block.votes
        for told in (votes[::-1], votes[:2] + votes[1:], votes + votes[-1:], (votes[1], votes[0], votes[2]),
                     ((votes[0][0], votes[1][1]), *votes[1:]), ((votes[0][0], ()), *votes[1:]),
                     ((votes[0][0], votes[0][1][:-1]), *votes[1:]), ((-1, votes[0][1]), *votes[1:]),
                     (*votes, (2 ** 40, votes[0][1]))):
            self.assertEqual(self.fault(self.with_block(1, votes=told)), "votes")
        for many in itertools.product((0, 1), repeat=3):
            told = tuple(itertools.compress(votes, many))
            self.assertIsNone(self.fault(self.with_block(1, votes=told)[:2]))
            # What stands behind it is not touched: votes are no part of a header.
            self.assertIsNone(self.fault(self.with_block(1, votes=told)))

    def test_votes_by_another_key_or_for_another_header(self):
        for index in range(8):
            told = chains.votes_of(32, self.rows[1][0].header.fields(), chains.team(32, (1, 2, 3), 3), index)
            self.assertEqual(self.fault(self.with_block(1, votes=told)), None if index == 1 else "votes")
        told = chains.votes_of(32, self.rows[2][0].header.fields(), chains.team(32, (1, 2, 3), 3), 1)
        self.assertEqual(self.fault(self.with_block(1, votes=told)), "votes")

    def test_votes_of_no_members(self):
        fields = self.rows[1][0].header.fields()
        told = chains.votes_of(32, fields, chains.team(32, (1, 2, 3, 7), 3))
        self.assertEqual(self.fault(self.with_block(1, votes=told)), "votes")
        told = chains.votes_of(32, fields, chains.team(32, (7,), 3))
        self.assertEqual(self.fault(self.with_block(1, votes=told)), "votes")

    def test_states(self):
        for at, pairs in enumerate(([(5, 50), (9, 90)], [(9, 90)], [(6, 60), (9, 90)])):
            self.assertEqual(self.rows[at][1], pairs)
            wrong = [pairs + [(10, 1)], pairs[1:], pairs + pairs[-1:], [(2 ** 32, 5)], [(-1, 5)], [(5, -1)],
                     [(key, value + 1) for key, value in pairs], [(key + 1, value) for key, value in pairs],
                     pairs + [(2 ** 32, 5)], [(-1, 5)] + pairs, pairs[:-1] + [(9, -90)]]
            if len(pairs) > 1:
                wrong.append(pairs[::-1])
            for told in wrong:
                self.assertEqual(self.fault(self.with_pairs(at, told)), "state")
        self.assertEqual(self.fault(self.with_block(5, state=5, votes=())), "state")

    def test_faults_of_reading(self):
        numbers = saved_node(self.node)
        for many in range(0, len(numbers), 3):
            self.assertIn(self.word(loaded_node, numbers[:many]), ("end", "count"))
        for many in range(3):
            self.assertEqual(self.word(loaded_node, numbers[:many]), "end")
        self.assertEqual(self.word(loaded_node, numbers + [0]), "rest")
        for count, word in ((-1, "count"), (len(numbers) - 2, "count"), (len(numbers) - 3, "end"), (0, "rest")):
            self.assertEqual(self.word(loaded_node, numbers[:2] + [count] + numbers[3:]), word)
        small = flat_node(32, 3, [(self.rows[0][0], [])])
        for tail, word in (([1], "count"), ([1, 5], "count"), ([2, 5, 6, 7], "count"), ([-1], "count"),
                           ([0, 5], "rest"), ([1, 5, 6, 7], "rest"), ([], "end"), ([1, 5, 6], "state")):
            self.assertEqual(self.word(loaded_node, small[:-1] + tail), word)

    def test_of_two_faults_the_first(self):
        bad = {"block": self.with_block(2, chain=4)[2], "votes": self.with_block(2, votes=self.rows[1][0].votes)[2],
               "state": (self.rows[2][0], [(7, 7)])}
        for (first, row), (second, other) in itertools.permutations(bad.items(), 2):
            later = [*self.rows[:2], row, *self.rows[3:]]
            self.assertEqual(self.fault(later), first)
            self.assertEqual(self.fault(later, 3, more=[0]), "rest")
            self.assertEqual(self.fault(later, 3), "width")
            mixed = {"block": {"chain": 4}, "votes": {"votes": self.rows[1][0].votes}, "state": {}}
            pairs = [(7, 7)] if "state" in (first, second) else self.rows[2][1]
            block = chains.changed(self.rows[2][0], **mixed[first], **mixed[second])
            expected = min(first, second, key=["block", "votes", "state"].index)
            self.assertEqual(self.fault([*self.rows[:2], (block, pairs)]), expected)
        # A fault of an earlier block comes before any of a later one.
        state = (self.rows[1][0], [(7, 7)])
        self.assertEqual(self.fault([self.rows[0], state, bad["block"]]), "state")
        self.assertEqual(self.fault([self.rows[0], self.with_block(1, votes=self.rows[2][0].votes)[1], bad["block"]]),
                         "votes")

    def test_numbers_by_chance(self):
        chance, seen = random.Random(2), {}
        for number in range(1400):
            if number % 20 == 0:
                width = chance.choice((4, 4, 5, 6))
                secrets = [tuple(chance.sample(range(1, 6), chance.randint(1, 2))) for _ in range(5)]
                voters = [chance.sample(range(1, 6), 3) for _ in range(5)]
                changes = [(chance.randrange(4), chance.choice((None, 5))) for _ in range(5)]
                numbers = saved_node(grown(width, secrets, voters, changes))
                self.assertIsNone(node_fault(numbers))
            spoilt = self.spoilt(chance, numbers)
            word = self.compare(loaded_node, saved_node, node_fault, spoilt)
            seen[word] = seen.get(word, 0) + 1
        self.assertEqual(set(seen), {None, "end", "count", "rest", "width", "block", "votes", "state"})


class Example(unittest.TestCase):
    def test_the_example(self):
        node = Node(Hasher(32), 7, 100, ((5, 1),), ((5, 1),), {3: 4})
        numbers = saved_node(node)
        self.assertEqual(
            [numbers[:3], numbers[-5:], loaded_node(numbers).pairs_at(0), loaded_node(numbers).block(0) == node.block(0)],
            [[32, 7, 1], [1, 0, 1, 3, 4], {3: 4}, True])
        with self.assertRaises(BadNumbers) as caught:
            loaded_node(numbers[:-1] + [5])
        self.assertEqual(caught.exception.why, "state")
        self.assertIs(type(loaded_node(numbers).block(0)), Block)
