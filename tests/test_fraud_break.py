import random
import unittest

from offing.fraud import fraud_break
from offing.hashing import is_collision
from tests import reference_ledger as plain
from tests import reference_lists as lists
from tests import reference_maps as maps
from tests.reference import digest
from tests.reference_questions import ODD
from tests.test_fraud import right_case
from tests.test_ledger import KEYS, some_accounts, some_transfers

WIDTH = 4


def true_parts(case, at=0):
    """The true proofs of which papers consist: of the keys before and after, and of all roots."""
    width = case.width
    before, after = [[maps.proof(width, one, key) for key in (1, 2, 3, 4)] for one in (case.before, case.after)]
    shown = [(root, lists.proof(width, list(case.body.roots), at)) for at, root in enumerate(case.body.roots)]
    return before, after, shown


def true_step(case, at):
    """The paper of a step that is right, made of true proofs."""
    width, body = case.width, case.body
    _, after, shown = true_parts(case)
    pairs, transfer = plain.run(case.pairs, body.transfers[:at])[1], body.transfers[at]
    accounts = (maps.proof(width, pairs, transfer[0]),
                maps.proof(width, plain.half_moved(pairs, transfer), transfer[1]))
    proof = lists.proof(width, plain.items(width, body.transfers), at)
    return ["step", at, transfer, list(after[1:]), proof, [shown[at], shown[at + 1]], list(accounts)]


def with_end(proof, value):
    return (*proof[:-1], value)


class Papers:
    """Makes papers against right states, in which some things are told otherwise than they are."""

    def __init__(self, chance):
        self.chance = chance
        pairs = some_accounts(chance)
        self.case = right_case(WIDTH, pairs, some_transfers(chance, pairs, chance.randrange(4)))

    def value(self, proof):
        """A proof of a key with another value at its end, and the same digest, if one is found soon."""
        key, own = proof[-2:] if len(proof) > 1 else (0, 0)
        for _ in range(40):
            value = self.chance.randrange(200)
            if value != own and digest(WIDTH, 2, [key, value]) == digest(WIDTH, 2, [key, own]):
                return with_end(proof, value)
        return proof

    def item(self, shown):
        """An item and its proof, of which something is another one."""
        number, proof = shown
        if proof and self.chance.randrange(2):
            at = self.chance.randrange(len(proof))
            proof = proof[:at] + (self.chance.randrange(16),) + proof[at + 1:]
        return (self.chance.choice((number, self.chance.randrange(40))), proof)

    def count(self, proofs, at, shown, place, more):
        """Another number of things in a proof of the key 3, and a proof that is so long."""
        many = self.chance.randrange(6)
        proofs[at] = with_end(proofs[at], many)
        if place is None:
            place = many
        row = [self.chance.randrange(16) for _ in range(many + more)]
        return (shown[0], lists.proof(WIDTH, row, place)) if place < len(row) else shown

    def root(self, proofs, at, size, place, item, proof):
        """The root that a proof tells as the value at the end of a proof of a key."""
        inputs = lists.made(WIDTH, size, place, item, proof) if 0 <= place < size else None
        if inputs:
            proofs[at] = with_end(proofs[at], digest(WIDTH, *inputs[0]))

    def keys(self):
        place, key = self.chance.randrange(2), self.chance.choice((1, 2, 3, 4))
        own = maps.proof(WIDTH, (self.case.before, self.case.after)[place], key)
        proof = own[:-2] + self.chance.choice(((), (key ^ 1, self.chance.randrange(60)), (key, 5)))
        return ("keys", place, key, proof)

    def edge(self, word):
        before, after, shown = true_parts(self.case)
        place = 0 if word == "start" else len(self.case.body.transfers)
        proofs = [(before if word == "start" else after)[0], after[2], after[3]]
        told, size = shown[place], place + 1 if word == "end" else len(shown)
        for _ in range(self.chance.randint(1, 2)):
            kind = self.chance.randrange(5)
            if kind == 0:
                proofs[0] = self.value(proofs[0])
            elif kind == 1:
                told = self.count(proofs, 1, told, 0 if word == "start" else None, 1)
                size = proofs[1][-1] + 1
                place = size - 1 if word == "end" else 0
            elif kind == 2:
                told = self.item(told)
            else:
                told = self.item(told)
                self.root(proofs, 2, size, place, *told)
        return (word, tuple(proofs), told)

    def step(self):
        many = len(self.case.body.transfers)
        if many == 0:
            return self.edge("start")
        at = self.chance.randrange(many)
        told = true_step(self.case, at)
        for _ in range(self.chance.randint(1, 2)):
            kind = self.chance.randrange(9)
            if kind > 6:
                # Another account of the sender, the root that it tells, and perhaps the root of the roots.
                told[6][0] = (0, told[2][0], self.chance.randrange(30))
                told[5][0] = (digest(WIDTH, 2, told[6][0][1:]), told[5][0][1])
                if kind == 8:
                    self.root(told[3], 2, many + 1, at, *told[5][0])
            elif kind == 0:
                told[3][self.chance.randrange(3)] = self.value(told[3][self.chance.randrange(3)])
            elif kind in (1, 2):
                told[2] = self.transfer(told[2])
                if kind == 2:
                    told[4] = self.item((0, told[4]))[1]
                    self.root(told[3], 0, many, at, plain.item(WIDTH, told[2]), told[4])
            elif kind in (3, 4):
                one = self.chance.randrange(2)
                told[5][one] = self.item(told[5][one])
                if kind == 4:
                    self.root(told[3], 2, many + 1, at + one, *told[5][one])
            else:
                one = self.chance.randrange(2)
                told[6][one] = self.account(told[6][one])
        return tuple(tuple(part) if isinstance(part, list) else part for part in told)

    def transfer(self, transfer):
        """Another transfer, which has the same item if one is found soon."""
        for _ in range(40):
            other = (self.chance.choice(KEYS), self.chance.choice((*KEYS, 2 ** 32)), self.chance.randrange(12))
            if plain.item(WIDTH, other) == plain.item(WIDTH, transfer):
                return other
        return other

    def account(self, proof):
        if self.chance.randrange(2) or len(proof) % 2 == 0:
            return self.value(proof)
        return proof[:-2] if len(proof) > 2 else proof + (self.chance.choice(KEYS), self.chance.randrange(30))

    def some(self):
        word = self.chance.choice(("keys", "start", "end", "step", "step", "step"))
        return {"keys": self.keys, "step": self.step}.get(word, lambda: self.edge(word))()


class Breaks(unittest.TestCase):
    def check(self, case, paper):
        """Compare a break with the rules; return the tags of the inputs, and whether there is one."""
        kept = dict(case.pairs), dict(case.before), dict(case.after)
        found = fraud_break(case.hasher, case.pairs, case.before, case.after, case.body, paper)
        self.assertEqual((case.pairs, case.before, case.after), kept)
        if not plain.holds(case.width, *case.roots, paper):
            self.assertIsNone(found)
            return "refused"
        expected = plain.breaking(case.width, case.pairs, case.before, case.after, case.body.transfers, paper)
        self.assertEqual(found, expected)
        self.assertIs(is_collision(case.hasher, found), True)
        return (paper[0], self.place(case, paper, found))

    def place(self, case, paper, found):
        """What in a paper it is that is not the true one."""
        tag = found[1][0]
        if paper[0] != "step" or tag == 12:
            return tag
        if tag in (0, 1):
            transfers, proof = plain.items(case.width, case.body.transfers), paper[4]
            own = paper[1] < len(transfers) and lists.proof(case.width, transfers, paper[1])
            if proof != own or plain.item(case.width, paper[2]) != transfers[paper[1]]:
                return "transfer"
            roots = list(case.body.roots)
            first = paper[5][0] == (roots[paper[1]], lists.proof(case.width, roots, paper[1]))
            return "second root" if first else "first root"
        proofs = tuple(maps.proof(case.width, case.after, key) for key in (2, 3, 4))
        for key, own, told in zip((2, 3, 4), proofs, paper[3]):
            if own != told:
                return "key %d" % key
        pairs = plain.run(case.pairs, case.body.transfers[:paper[1]])[1]
        return "receiver" if paper[6][0] == maps.proof(case.width, pairs, paper[2][0]) else "sender"

    def test_papers_by_chance(self):
        chance, seen = random.Random(1), {}
        for number in range(3000):
            if number % 12 == 0:
                papers = Papers(chance)
            kind = self.check(papers.case, papers.some())
            seen[kind] = seen.get(kind, 0) + 1
        self.assertLessEqual({
            "refused", ("keys", 2), ("start", 0), ("start", 1), ("start", 2), ("end", 0), ("end", 1), ("end", 2),
            ("step", "transfer"), ("step", 12), ("step", "first root"), ("step", "second root"), ("step", "key 2"),
            ("step", "sender"), ("step", "receiver")}, set(seen), seen)

    def test_true_papers_and_no_papers(self):
        chance = random.Random(2)
        for _ in range(40):
            pairs = some_accounts(chance)
            case = right_case(64, pairs, some_transfers(chance, pairs, 3))
            before, after, shown = true_parts(case)
            papers = [("start", (before[0], *after[2:]), shown[0]), ("end", (after[0], *after[2:]), shown[-1]), *ODD]
            for at in range(len(case.body.transfers)):
                told = true_step(case, at)
                papers.append(tuple(tuple(part) if isinstance(part, list) else part for part in told))
            papers += [("keys", place, key, proofs[key - 1]) for place, proofs in enumerate((before, after))
                       for key in (1, 2, 3, 4)]
            for paper in papers:
                self.assertIsNone(fraud_break(case.hasher, pairs, case.before, case.after, case.body, paper))

    def test_a_lie_of_each_proof_in_its_order(self):
        """Of several proofs that are not the true ones, the first one that is told counts."""
        case = right_case(8, {1: 5, 2: 3}, [(1, 2, 1)])
        before, after, shown = true_parts(case)

        def other_value(proof):
            key, own = proof[-2:]
            return with_end(proof, next(value for value in range(10 ** 5) if value != own and
                                        digest(8, 2, [key, value]) == digest(8, 2, [key, own])))

        lies = [other_value(before[0]), after[2], after[3]]
        root = next(number for number in range(10 ** 5) if number != shown[0][0] and
                    digest(8, 0, [number]) == digest(8, 0, [shown[0][0]]))
        for first in (False, True):
            proofs = (lies[0] if first else before[0], *lies[1:])
            paper = ("start", proofs, (root, shown[0][1]))
            found = fraud_break(case.hasher, case.pairs, case.before, case.after, case.body, paper)
            expected = ((2, (1, case.before[1])), (2, (1, lies[0][-1])))
            if not first:
                expected = ((0, (shown[0][0],)), (0, (root,)))
            self.assertEqual(found, ("collision", *expected))

    def found_proof(self, chance, width, top, size, place, item, length):
        """A proof of any item that is accepted, found by trying."""
        while True:
            proof = tuple(chance.randrange(2 ** width) for _ in range(length))
            if lists.accepted(width, top, size, place, item, proof):
                return proof

    def test_lies_of_the_keys_of_a_step(self):
        chance = random.Random(3)
        for width, key in ((8, 4), (6, 3), (5, 3)):
            case = right_case(width, {1: 5, 2: 3}, [(1, 2, 4)])
            told, own = true_step(case, 0), case.after[key]
            values = (value for value in range(10 ** 6) if value != own and value < (2 ** width if key == 4 else 10 ** 6)
                      and digest(width, 2, [key, value]) == digest(width, 2, [key, own]))
            value = next(values)
            told[3][key - 2] = with_end(told[3][key - 2], value)
            many, top = (value, case.after[4]) if key == 3 else (1, value)
            if key == 3:
                length = len(lists.proof(width, [0] * many, 0))
                told[4] = self.found_proof(chance, width, case.after[2], many, 0, plain.item(width, told[2]), length)
            for at in (0, 1):
                root = told[5][at][0] if at == 0 else 7
                length = len(lists.proof(width, [0] * (many + 1), at))
                told[5][at] = (root, self.found_proof(chance, width, top, many + 1, at, root, length))
            paper = tuple(tuple(part) if isinstance(part, list) else part for part in told)
            self.assertEqual(self.check(case, paper), ("step", "key %d" % key))
            self.assertEqual(fraud_break(case.hasher, case.pairs, case.before, case.after, case.body, paper),
                             ("collision", (2, (key, own)), (2, (key, value))))

    def test_a_sender_that_is_told_to_have_too_little(self):
        case = right_case(8, {1: 5, 2: 3}, [(1, 2, 4)])
        told = true_step(case, 0)
        sender, tried = told[6][0], 0
        for value in range(4):
            lie = with_end(sender, value)
            if digest(8, 2, [1, value]) == digest(8, 2, [1, 5]):
                tried += 1
            told[6] = [lie, (7, 7, 7)]
            paper = tuple(tuple(part) if isinstance(part, list) else part for part in told)
            self.check(case, paper)
        # An account that is not there: its end tells another key.
        for key, value in ((key, value) for key in (0, 1) for value in range(3000)):
            if key == 0 and digest(8, 2, [key, value]) == digest(8, 2, [1, 5]):
                told[6] = [sender[:-2] + (key, value), (7, 7, 7)]
                paper = tuple(tuple(part) if isinstance(part, list) else part for part in told)
                self.assertEqual(self.check(case, paper), ("step", "sender"))
                self.assertEqual(fraud_break(case.hasher, case.pairs, case.before, case.after, case.body, paper),
                                 ("collision", (2, (1, 5)), (2, (0, value))))
                tried += 1
        self.assertGreater(tried, 3)
