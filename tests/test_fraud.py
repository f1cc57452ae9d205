import itertools
import random
import unittest

from offing.client import Client
from offing.fraud import alarm, fraud_holds, fraud_of
from offing.hashing import Hasher
from offing.ledger import Body, account_check, account_proof, body_fault, made_body, meta_of, run_transfers
from offing.maps import map_root
from offing.node import Node
from offing.trust import Policy
from tests import chains
from tests import reference_ledger as plain
from tests import reference_maps
from tests.reference_questions import ODD
from tests.test_ledger import some_accounts, some_transfer, some_transfers

OPEN = Policy(10 ** 6, 0)
LATE = 10 ** 5


class Case:
    """Accounts, a body, and the meta maps before and after, in which something may be wrong."""

    def __init__(self, width, pairs, transfers, roots, last=None, first=None):
        self.width, self.hasher, self.pairs = width, Hasher(width), pairs
        self.body = Body(transfers, roots)
        first = reference_maps.root(width, pairs) if first is None else first
        self.before = plain.meta(width, first, [(1, 2, 3)], [5, 6])
        self.after = plain.meta(width, roots[-1] if last is None else last, transfers, roots)
        self.roots = (reference_maps.root(width, self.before), reference_maps.root(width, self.after))

    def paper(self):
        return fraud_of(self.hasher, self.pairs, self.before, self.after, self.body)

    def expected(self):
        return plain.paper(self.width, self.pairs, self.before, self.after, self.body.transfers, self.body.roots)

    def holds(self, paper):
        return fraud_holds(self.hasher, *self.roots, paper)


def right_case(width, pairs, transfers):
    return Case(width, pairs, transfers, plain.roots(width, pairs, transfers))


def case_by_chance(chance, width=64):
    """A case in which a transfer, or one or two roots, may be wrong."""
    pairs = some_accounts(chance)
    good = some_transfers(chance, pairs, chance.randrange(4))
    transfers, roots = list(good), plain.roots(width, pairs, good)
    if chance.randrange(2):
        at = chance.randrange(len(transfers) + 1)
        bad = chance.choice((some_transfer(chance, pairs), (2 ** 32, 1, 1), (1, 1, 1), (1, 2, 0), (7, 1, 2 ** 90)))
        transfers.insert(at, bad)
        roots.insert(at + 1, chance.choice((roots[at], chance.randrange(2 ** width))))
    for _ in range(chance.choice((0, 0, 1, 2))):
        roots[chance.randrange(len(roots))] = chance.randrange(2 ** width)
    last = chance.choice((None, None, chance.randrange(2 ** width)))
    return Case(width, pairs, transfers, roots, last)


class Made(unittest.TestCase):
    def check(self, case):
        kept = dict(case.pairs), dict(case.before), dict(case.after)
        self.assertIsNone(body_fault(case.hasher, case.after, case.body))
        paper = case.paper()
        self.assertEqual(paper, case.expected())
        self.assertEqual((case.pairs, case.before, case.after), kept)
        if paper is not None:
            self.assertIs(case.holds(paper), True)
            self.assertIs(plain.holds(case.width, *case.roots, paper), True)
        return paper

    def test_no_paper_exactly_if_the_state_is_right(self):
        chance, words = random.Random(1), {}
        for _ in range(250):
            case = case_by_chance(chance)
            found = plain.run(case.pairs, case.body.transfers)
            right = found[0] == "done" and list(case.body.roots) == plain.roots(
                case.width, case.pairs, case.body.transfers) and (
                case.after[1] == reference_maps.root(case.width, found[1]))
            paper = self.check(case)
            self.assertEqual(paper is None, right)
            word = paper and (paper[0], len(paper[-1][0]) > 0 if paper[0] == "step" else None)
            words[word] = words.get(word, 0) + 1
        self.assertEqual(set(words), {None, ("start", None), ("end", None), ("step", True), ("step", False)}, words)

    def test_states_that_are_right(self):
        chance = random.Random(2)
        for _ in range(60):
            pairs = some_accounts(chance)
            case = right_case(chance.choice((4, 8, 64)), pairs, some_transfers(chance, pairs, 5))
            self.assertIsNone(self.check(case))

    def test_the_first_root(self):
        for pairs, transfers in (({}, []), ({1: 5}, [(1, 2, 3)])):
            roots = plain.roots(64, pairs, transfers)
            for wrong in (0, roots[0] ^ 1, 2 ** 64 - 1):
                paper = self.check(Case(64, pairs, transfers, [wrong, *roots[1:]], last=roots[-1]))
                self.assertEqual((paper[0], paper[2][0]), ("start", wrong))

    def test_the_last_root(self):
        for pairs, transfers in (({}, []), ({1: 5}, [(1, 2, 3)]), ({1: 5}, [(1, 2, 3), (2, 1, 1)])):
            roots = plain.roots(64, pairs, transfers)
            for wrong in (0, roots[-1] ^ 1, 2 ** 70):
                paper = self.check(Case(64, pairs, transfers, roots, last=wrong))
                self.assertEqual((paper[0], paper[2][0]), ("end", roots[-1]))

    def test_the_steps(self):
        pairs = {1: 5, 2: 3, 2 ** 31: 1}
        good = [(1, 2, 1), (2, 7, 4), (2 ** 31, 1, 1)]
        roots = plain.roots(64, pairs, good)
        for at in range(1, 4):
            paper = self.check(Case(64, pairs, good, roots[:at] + [roots[at] ^ 1] + roots[at + 1:]))
            self.assertEqual(paper[:3], ("step", at - 1, good[at - 1]))
        for at in range(3):
            for transfer, lengths in (
                    ((2 ** 32, 1, 1), (False, False)), ((1, 2 ** 40, 1), (False, False)), ((7, 7, 1), (False, False)),
                    ((1, 7, 0), (False, False)), ((1, 7, 99), (True, False)), ((9, 7, 1), (True, False)),
                    ((1, 7, 1), (True, True))):
                transfers = good[:at] + [transfer] + good[at + 1:]
                case = Case(64, pairs, transfers, roots[:at + 1] + [5] + roots[at + 2:], last=roots[-1])
                paper = self.check(case)
                self.assertEqual(paper[:3], ("step", at, transfer))
                self.assertEqual(tuple(len(proof) > 0 for proof in paper[-1]), lengths)

    def test_a_sender_that_sends_all(self):
        pairs = {1: 5}
        for receiver in (0, 2, 2 ** 31):
            case = Case(64, pairs, [(1, receiver, 5)], [map_root(Hasher(64), pairs), map_root(Hasher(64), {receiver: 6})])
            self.assertEqual(self.check(case)[0], "step")
            self.assertIsNone(self.check(right_case(64, pairs, [(1, receiver, 5)])))

    def test_of_several_faults_the_first(self):
        pairs, good = {1: 9}, [(1, 2, 3), (1, 3, 2)]
        roots = plain.roots(64, pairs, good)
        for bits in range(1, 16):
            told = [root ^ (bits >> at & 1) for at, root in enumerate(roots)]
            last = roots[-1] ^ 8 if bits & 8 else told[-1]
            paper = self.check(Case(64, pairs, good, told, last))
            first = min(at for at in range(4) if bits >> at & 1)
            expected = [("start",), ("step", 0), ("step", 1), ("end",)][first]
            self.assertEqual(paper[:len(expected)], expected)

    def test_meta_maps_that_lack_a_key(self):
        case = right_case(64, {1: 5}, [(1, 2, 3)])
        for place, name in enumerate(("before", "after")):
            for key in (1, 2, 3, 4):
                other = right_case(64, {1: 5}, [(1, 2, 3)])
                lacking = {one: value for one, value in getattr(case, name).items() if one != key}
                setattr(other, name, lacking)
                paper = other.paper()
                self.assertEqual(paper, ("keys", place, key, reference_maps.proof(64, lacking, key)))
                roots = list(case.roots)
                roots[place] = reference_maps.root(64, lacking)
                self.assertIs(fraud_holds(Hasher(64), *roots, paper), True)
                self.assertIs(case.holds(paper), False)

    def test_more_keys_before(self):
        case = right_case(64, {1: 5}, [(1, 2, 3)])
        case.before[77] = 5
        self.assertIsNone(case.paper())


class Held(unittest.TestCase):
    def lacking(self, chance, case):
        """A paper that a meta map lacks a key, in a case in which it does."""
        place, key = chance.randrange(2), chance.choice((1, 2, 3, 4))
        one = dict((case.before, case.after)[place])
        if chance.randrange(4):
            del one[key]
        roots = list(case.roots)
        roots[place] = reference_maps.root(case.width, one)
        case.roots = tuple(roots)
        return ("keys", place, key, reference_maps.proof(case.width, one, key))

    def some_paper(self, chance, case):
        """A paper of any kind for a case, that holds or not."""
        if chance.randrange(4) == 0:
            return self.lacking(chance, case)
        paper = case.expected()
        if paper is not None:
            return paper
        # The paper of something that is right.
        width, body = case.width, case.body
        own = [reference_maps.proof(width, case.after, key) for key in (1, 2, 3, 4)]
        shown = [(root, plain.lists.proof(width, list(body.roots), at)) for at, root in enumerate(body.roots)]
        if not body.transfers or chance.randrange(3) == 0:
            first = reference_maps.proof(width, case.before, 1)
            return chance.choice((("start", (first, *own[2:]), shown[0]), ("end", (own[0], *own[2:]), shown[-1])))
        at = chance.randrange(len(body.transfers))
        pairs, transfer = plain.run(case.pairs, body.transfers[:at])[1], body.transfers[at]
        accounts = (reference_maps.proof(width, pairs, transfer[0]),
                    reference_maps.proof(width, plain.half_moved(pairs, transfer), transfer[1]))
        proof = plain.lists.proof(width, plain.items(width, body.transfers), at)
        return ("step", at, transfer, tuple(own[1:]), proof, (shown[at], shown[at + 1]), accounts)

    def spoilt(self, chance, told, depth=0):
        """A paper with one thing in it changed, cut, put in or put in another place, however deep."""
        row = list(told)
        tuples = [at for at, part in enumerate(row) if isinstance(part, tuple)]
        if tuples and chance.randrange(6):
            at = chance.choice(tuples)
            row[at] = self.spoilt(chance, row[at], depth + 1)
            return tuple(row)
        word, at = chance.randrange(7), chance.randrange(max(1, len(row)))
        if word == 0:
            del row[at:at + 1]
        elif word == 1:
            row.insert(at, chance.choice((0, 1, 5, (), (0,), None, "step")))
        elif word == 2 and row:
            row[at] = chance.choice((None, "keys", "end", "start", "other", (), (5,), ((5,),), -1, 2 ** 70, 0))
        elif word == 3 and row:
            row.append(row.pop(at))
        elif row and isinstance(row[at], int):
            row[at] += chance.choice((1, -1, 2 ** 32, -2 ** 70))
        return tuple(row)

    def test_papers_that_are_changed(self):
        chance, seen = random.Random(3), {}
        for number in range(1600):
            if number % 8 == 0:
                case = case_by_chance(chance, chance.choice((4, 4, 64)))
                paper = self.some_paper(chance, case)
            told = self.spoilt(chance, paper) if number % 8 else paper
            found = case.holds(told)
            self.assertIs(found, plain.holds(case.width, *case.roots, told), told)
            seen[(paper[0], found)] = seen.get((paper[0], found), 0) + 1
        self.assertEqual(len(seen), 8, seen)

    def test_papers_of_what_is_right(self):
        chance = random.Random(4)
        for _ in range(80):
            pairs = some_accounts(chance)
            case = right_case(64, pairs, some_transfers(chance, pairs, 3))
            paper = self.some_paper(chance, case)
            self.assertIs(case.holds(paper), plain.holds(64, *case.roots, paper))
            if paper[0] != "keys":
                self.assertIs(case.holds(paper), False)

    def test_each_part_of_each_paper(self):
        """At a great width, no number in a paper may be another one, unless it stands for any."""
        pairs, good = {1: 5, 2: 3}, [(1, 2, 1), (2, 7, 4)]
        roots = plain.roots(64, pairs, good)
        cases = [Case(64, pairs, good, [roots[0] ^ 1, *roots[1:]]), Case(64, pairs, good, roots, last=7),
                 Case(64, pairs, good, [roots[0], roots[1] ^ 1, roots[2]]),
                 Case(64, pairs, [(1, 2, 99)] + good[1:], roots)]
        for case in cases:
            paper, tried = case.paper(), 0
            for path in self.paths(paper):
                for more in (1, -1, 2 ** 64):
                    told = self.changed(paper, path, more)
                    self.assertIs(case.holds(told), False, (path, more))
                    tried += 1
            self.assertGreater(tried, 100)
            self.assertIs(case.holds(paper), True)
            for roots_told in (case.roots[::-1], (case.roots[0], 5), (-1, -1)):
                self.assertIs(fraud_holds(case.hasher, *roots_told, paper), False)
        self.assertIs(fraud_holds(Hasher(64), 5, cases[1].roots[1], cases[1].paper()), True)
        self.assertIs(fraud_holds(Hasher(64), 5, cases[0].roots[1], cases[0].paper()), False)
        self.assertIs(fraud_holds(Hasher(64), 5, cases[2].roots[1], cases[2].paper()), True)

    def paths(self, told):
        if isinstance(told, int):
            return [()]
        if not isinstance(told, tuple):
            return []
        return [(at, *path) for at, part in enumerate(told) for path in self.paths(part)]

    def changed(self, told, path, more):
        if not path:
            return told + more
        return told[:path[0]] + (self.changed(told[path[0]], path[1:], more),) + told[path[0] + 1:]

    def test_what_stands_for_proofs_of_accounts(self):
        pairs, good = {1: 5, 2: 3}, [(1, 2, 1)]
        roots = plain.roots(64, pairs, good)
        odd = (None, 5, "step", ((5,),), (5, None), ((),))
        rows = ((), (5,), (-1, 2 ** 70), (0, 0, 0))
        for transfer, free in (((2 ** 32, 1, 1), 2), ((1, 2 ** 32, 1), 2), ((1, 1, 1), 2), ((1, 2, 0), 2),
                               ((1, 2, 6), 1), ((9, 2, 1), 1), ((1, 2, 2), 0)):
            case = Case(64, pairs, [transfer], roots)
            paper = case.paper()
            self.assertIs(case.holds(paper), True)
            first, second = paper[-1]
            for one, other in itertools.product(rows, repeat=2):
                self.assertIs(case.holds(paper[:-1] + ((one, other),)), free == 2)
                self.assertIs(case.holds(paper[:-1] + ((first, other),)), free > 0)
                self.assertIs(case.holds(paper[:-1] + ((one, second),)), free == 2)
            for one in odd:
                for accounts in ((one, second), (first, one), one, (first, second, one)):
                    self.assertIs(case.holds(paper[:-1] + (accounts,)), False)
            for accounts in ((), (first,), (first, second, ())):
                self.assertIs(case.holds(paper[:-1] + (accounts,)), False)

    def test_negative_numbers_in_transfers_and_what_is_shown(self):
        # A body whose transfer or root is negative is none; its digests may still be told.
        hasher, pairs = Hasher(64), {1: 5}
        for transfer in ((-1, 2, 1), (1, -2, 1), (1, 2, -1)):
            case = Case(64, pairs, [(1, 2, 3)], plain.roots(64, pairs, [(1, 2, 3)]))
            items = [hasher.digest(12, transfer)]
            case.after[2] = plain.lists.root(64, items)
            paper = ("step", 0, transfer, tuple(reference_maps.proof(64, case.after, key) for key in (2, 3, 4)), (),
                     tuple((root, plain.lists.proof(64, list(case.body.roots), at))
                           for at, root in enumerate(case.body.roots)), ((), ()))
            self.assertIs(fraud_holds(hasher, 5, reference_maps.root(64, case.after), paper), False)
        case = Case(64, pairs, [], [5])
        after = dict(case.after)
        after[4] = hasher.digest(0, [-1])
        for word, one in (("start", case.before), ("end", after)):
            proofs = (reference_maps.proof(64, one, 1), *[reference_maps.proof(64, after, key) for key in (3, 4)])
            roots = (case.roots[0], reference_maps.root(64, after))
            self.assertIs(fraud_holds(hasher, *roots, (word, proofs, (-1, ()))), False)

    def test_a_count_that_is_huge(self):
        # A meta map may tell any number of transfers; what it tells of them is followed as far as the proofs are.
        hasher = Hasher(64)
        for many in (2 ** 31, 2 ** 70, 2 ** 200):
            after = {1: 5, 2: 6, 3: many, 4: 7}
            before = {1: 5, 2: 6, 3: 0, 4: 7}
            proofs = tuple(reference_maps.proof(64, after, key) for key in (1, 3, 4))
            for told in ((), (0,), (0,) * 500):
                self.assertIs(fraud_holds(hasher, reference_maps.root(64, before), reference_maps.root(64, after),
                                          ("end", proofs, (9, told))), False)

    def test_values_that_are_no_papers(self):
        deep = ()
        for _ in range(50000):
            deep = (deep,)
        case = Case(64, {1: 5}, [(1, 2, 9)], [map_root(Hasher(64), {1: 5}), 7])
        words = ("keys", "start", "end", "step")
        values = [*ODD, deep, (deep,), *[(word,) for word in words], *[(word, deep) for word in words]]
        for word, many in itertools.product((*words, "other", ""), range(8)):
            for part in (None, 5, -1, "step", (), deep, ((), ()), ((), (), ()), (5, ()), (1, 2, 3), ((5, ()), (6, ()))):
                values.append((word, *[part] * many))
        for part in (None, "keys", (), (1,), deep):
            values += [("keys", part, 1, (0,)), ("keys", 1, part, (0,)), ("keys", 1, 1, (part,)), (part, 1, 1, (0,))]
        for value in values:
            self.assertIs(case.holds(value), False)
        paper = case.paper()
        for at, part in itertools.product(range(len(paper)), (None, deep, "step", 2 ** 70, (), (deep, deep))):
            # The only transfer of a body has the proof ().
            if part != paper[at]:
                self.assertIs(case.holds(paper[:at] + (part,) + paper[at + 1:]), False)

    def test_papers_of_keys(self):
        hasher, whole = Hasher(64), {1: 5, 2: 6, 3: 0, 4: 7}
        for key in (0, 1, 2, 3, 4, 5, 2 ** 32 - 1, 2 ** 32, -1):
            lacking = {one: whole[one] for one in whole if one != key}
            proof = reference_maps.proof(64, lacking, key) if 0 <= key < 2 ** 32 else (0,)
            roots = (reference_maps.root(64, whole), reference_maps.root(64, lacking))
            for place in (-1, 0, 1, 2, 2 ** 70):
                self.assertIs(fraud_holds(hasher, *roots, ("keys", place, key, proof)), place == 1 and 1 <= key <= 4)
                self.assertIs(fraud_holds(hasher, *roots[::-1], ("keys", place, key, proof)),
                              place == 0 and 1 <= key <= 4)
            if key in whole:
                there = reference_maps.proof(64, whole, key)
                self.assertIs(fraud_holds(hasher, roots[0], roots[0], ("keys", 1, key, there)), False)
        empty = reference_maps.root(64, {})
        self.assertIs(fraud_holds(hasher, empty, 5, ("keys", 0, 3, (0,))), True)

    def test_an_account_of_nothing(self):
        """A first root may tell an account of nothing: its sender has too little."""
        pairs = {1: 0, 2: 3}
        case = Case(64, pairs, [(1, 2, 1)], [reference_maps.root(64, pairs), 7])
        paper = case.paper()
        self.assertEqual(paper[0], "step")
        self.assertIs(case.holds(paper), True)
        self.assertIs(plain.holds(64, *case.roots, paper), True)


class Chains(unittest.TestCase):
    def setUp(self):
        self.hasher = Hasher(32)
        self.team = chains.team(32, (1, 2), 4)
        self.members = chains.members_of(self.team)

    def chain(self, chance, many, wrong=None):
        """A node whose states tell of accounts, what they are, and the bodies; the state of one height is wrong."""
        pairs = {1: 9, 2: 5, 2 ** 31: 7}
        body = made_body(self.hasher, pairs, [])
        node = Node(self.hasher, 3, 100, self.members, self.members, meta_of(self.hasher, body.roots[-1], body))
        rows = [(pairs, body)]
        for height in range(1, many):
            transfers = some_transfers(chance, pairs, 3)
            body = made_body(self.hasher, pairs, transfers)
            if height == wrong:
                bad = (1, 2, 10 ** 6)
                claimed = {**pairs, 2: 10 ** 6}
                body = Body([*transfers, bad], [*body.roots, map_root(self.hasher, claimed)])
                pairs = claimed
            else:
                pairs = run_transfers(pairs, transfers)[1]
            node.grow(100 + height, meta_of(self.hasher, body.roots[-1], body), self.members, self.team)
            rows.append((pairs, body))
        return node, rows

    def paper(self, node, rows, height):
        """The paper against the state of a height."""
        return fraud_of(self.hasher, rows[height - 1][0], node.pairs_at(height - 1), node.pairs_at(height), rows[height][1])

    def test_the_sum_stays_up_to_the_first_wrong_state(self):
        chance = random.Random(5)
        for wrong in (None, 1, 3, 6):
            node, rows = self.chain(chance, 8, wrong)
            client = Client(self.hasher, OPEN, node.block(0))
            client.follow(node.answers(), list(range(1, 8)), LATE)
            for height in range(1, 8):
                paper = self.paper(node, rows, height)
                self.assertEqual(paper is None, height != wrong)
                if paper is None:
                    self.assertEqual(sum(rows[height][0].values()), sum(rows[height - 1][0].values()))
                else:
                    self.assertEqual(paper[:3], ("step", len(rows[height][1].transfers) - 1, (1, 2, 10 ** 6)))
                    self.assertNotEqual(sum(rows[height][0].values()), sum(rows[height - 1][0].values()))
            # Everything is told from the trusted headers alone.
            for height in range(8):
                proof = account_proof(self.hasher, node.pairs_at(height), rows[height][0], 1)
                state = client.block(height).header.state
                self.assertEqual(account_check(self.hasher, state, 1, proof), rows[height][0].get(1, 0))

    def test_an_alarm(self):
        node, rows = self.chain(random.Random(6), 6, 3)
        paper = self.paper(node, rows, 3)
        for trusted, halts in (([1, 2, 3], True), ([2, 3, 5], True), ([1, 3], False), ([2], False), ([1, 2, 4], False),
                               ([], False), ([1, 2, 3, 4, 5], True)):
            client = Client(self.hasher, OPEN, node.block(0))
            client.follow(node.answers(), trusted, LATE)
            for height in (-1, 0, 1, 3, 4, 5, 99):
                self.assertIs(alarm(client, height, paper), False)
            self.assertIs(client.halted, False)
            self.assertIs(alarm(client, 2, paper), halts)
            self.assertIs(client.halted, halts)
            self.assertEqual(client.heights(), [0, *trusted])
            self.assertIs(alarm(client, 2, paper), halts)
            word = ("refused", "halted", 5) if halts and 5 not in trusted else ("trusted",)
            self.assertEqual(client.reach(node.answers(), 5, LATE), word)

    def test_papers_that_do_not_hold(self):
        node, rows = self.chain(random.Random(7), 6, 3)
        client = Client(self.hasher, OPEN, node.block(0))
        client.follow(node.answers(), [1, 2, 3, 4, 5], LATE)
        paper = self.paper(node, rows, 3)
        for wrong in (None, 5, (), "step", paper[:-1], paper + (0,), ("end", *paper[1:]), (paper[0], 9, *paper[2:]),
                      ("keys", 1, 1, ()), ("keys", 1, 1, reference_maps.proof(32, node.pairs_at(3), 1)), *ODD):
            self.assertIs(alarm(client, 2, wrong), False)
        self.assertIs(client.halted, False)

    def test_a_client_that_is_halted_already(self):
        node, rows = self.chain(random.Random(8), 5, 3)
        client = Client(self.hasher, OPEN, node.block(0))
        client.follow(node.answers(), [2, 3], LATE)
        client.halted = True
        self.assertIs(alarm(client, 2, self.paper(node, rows, 3)), True)
        self.assertIs(alarm(client, 2, None), False)
        self.assertIs(client.halted, True)


class Example(unittest.TestCase):
    def test_the_example(self):
        hasher = Hasher(64)
        pairs = {1: 5}
        before = meta_of(hasher, map_root(hasher, pairs), made_body(hasher, pairs, []))
        right = made_body(hasher, pairs, [(1, 2, 3)])
        self.assertIsNone(fraud_of(hasher, pairs, before, meta_of(hasher, right.roots[1], right), right))
        wrong = Body([(1, 2, 9)], [right.roots[0], map_root(hasher, {2: 9})])
        after = meta_of(hasher, wrong.roots[1], wrong)
        paper = fraud_of(hasher, pairs, before, after, wrong)
        self.assertEqual([paper[:3], fraud_holds(hasher, map_root(hasher, before), map_root(hasher, after), paper)],
                         [("step", 0, (1, 2, 9)), True])
