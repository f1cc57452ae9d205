import itertools
import random
import unittest

from offing.hashing import Hasher, is_collision
from offing.ledger import (
    TRANSFER_TAG, Body, account_check, account_proof, body_fault, made_body, meta_of, moved, run_transfers,
    transfer_fault, transfer_item)
from offing.maps import map_break, map_root
from offing.trust import Policy
from tests import reference_ledger as plain
from tests import reference_lists, reference_maps
from tests.reference import digest

LAST = 2 ** 32 - 1
KEYS = [0, 1, 2, 7, 2 ** 31, LAST]


def some_accounts(chance, many=4):
    return {chance.choice(KEYS): chance.choice((1, 2, 5, 9, 2 ** 70)) for _ in range(chance.randrange(many + 1))}


def some_transfer(chance, pairs):
    sender = chance.choice(list(pairs) or KEYS) if chance.randrange(4) else chance.choice(KEYS)
    amount = chance.choice((1, 2, 5, pairs.get(sender, 1), pairs.get(sender, 0) + 1))
    return (sender, chance.choice(KEYS), amount)


def some_transfers(chance, pairs, many):
    """Transfers without fault, one behind the other."""
    row = []
    for _ in range(20):
        transfer = some_transfer(chance, pairs)
        if len(row) < many and plain.fault(pairs, transfer) is None:
            row.append(transfer)
            pairs = plain.moved(pairs, transfer)
    return row


class Transfers(unittest.TestCase):
    def test_each_fault_alone(self):
        pairs = {1: 5, 2: 3, 0: 1, LAST: 9}
        for transfer, fault in (
                ((1, 2, 5), None), ((1, 2, 1), None), ((1, 7, 5), None), ((0, LAST, 1), None), ((LAST, 0, 9), None),
                ((-1, 2, 1), "key"), ((2 ** 32, 2, 1), "key"), ((1, -1, 1), "key"), ((1, 2 ** 32, 1), "key"),
                ((-2 ** 70, 2 ** 70, 1), "key"), ((1, 1, 1), "same"), ((7, 7, 1), "same"), ((1, 2, 0), "amount"),
                ((1, 2, -1), "amount"), ((1, 2, -2 ** 70), "amount"), ((1, 2, 6), "balance"),
                ((1, 2, 2 ** 70), "balance"), ((7, 1, 1), "balance"), ((2, 1, 4), "balance")):
            self.assertEqual(transfer_fault(pairs, transfer), fault, transfer)
        self.assertEqual(pairs, {1: 5, 2: 3, 0: 1, LAST: 9})
        self.assertEqual(transfer_fault({}, (1, 2, 1)), "balance")

    def test_of_two_faults_the_first(self):
        for transfer, fault in (
                ((-1, -1, 1), "key"), ((2 ** 32, 2 ** 32, 0), "key"), ((-1, 2, 0), "key"), ((1, -1, 9), "key"),
                ((1, 1, 0), "same"), ((1, 1, 9), "same"), ((1, 1, -5), "same"), ((7, 1, 0), "amount"),
                ((7, 1, -1), "amount")):
            self.assertEqual(transfer_fault({1: 5}, transfer), fault)

    def test_moving(self):
        for pairs, transfer, expected in (
                ({1: 5}, (1, 2, 3), {1: 2, 2: 3}), ({1: 5}, (1, 2, 5), {2: 5}), ({1: 5, 2: 3}, (1, 2, 5), {2: 8}),
                ({1: 5, 2: 3}, (2, 1, 1), {1: 6, 2: 2}), ({LAST: 2 ** 70}, (LAST, 0, 2 ** 70 - 1), {LAST: 1, 0: 2 ** 70 - 1})):
            kept = dict(pairs)
            behind = moved(pairs, transfer)
            self.assertEqual(behind, expected)
            self.assertEqual(pairs, kept)
            behind[9] = 9
            self.assertEqual(moved(pairs, transfer), expected)

    def test_transfers_by_chance(self):
        chance, words = random.Random(1), set()
        for _ in range(600):
            pairs = some_accounts(chance)
            transfers = [some_transfer(chance, pairs) for _ in range(chance.randrange(4))]
            if chance.randrange(2):
                transfers = some_transfers(chance, pairs, 4)
            kept = dict(pairs), list(transfers)
            for transfer in transfers:
                self.assertEqual(transfer_fault(pairs, transfer), plain.fault(pairs, transfer))
            found = run_transfers(pairs, transfers)
            self.assertEqual(found, plain.run(pairs, transfers))
            self.assertEqual((pairs, transfers), kept)
            if found[0] == "done":
                self.assertEqual(sum(found[1].values()), sum(pairs.values()))
                self.assertTrue(all(balance > 0 for balance in found[1].values()))
                found[1][77] = 7
                self.assertEqual((pairs, transfers), kept)
            words.add(found[0] if found[0] == "done" else found[2])
        self.assertEqual(words, {"done", "same", "balance"})

    def test_the_first_fault_of_several(self):
        self.assertEqual(run_transfers({1: 5}, [(1, 2, 5), (2, 3, 9), (-1, 2, 3)]), ("fault", 1, "balance"))
        self.assertEqual(run_transfers({1: 5}, [(1, 1, 5), (2, 3, 9)]), ("fault", 0, "same"))
        self.assertEqual(run_transfers({1: 5}, ()), ("done", {1: 5}))
        self.assertEqual(run_transfers({}, []), ("done", {}))


class Bodies(unittest.TestCase):
    def test_attributes_and_equality(self):
        body = Body([(1, 2, 3)], [5, 6])
        self.assertEqual((body.transfers, body.roots), (((1, 2, 3),), (5, 6)))
        self.assertEqual(Body(roots=(5, 6), transfers=((1, 2, 3),)).roots, (5, 6))
        self.assertTrue(body == Body(((1, 2, 3),), (5, 6)))
        self.assertFalse(body != Body(((1, 2, 3),), (5, 6)))
        for other in (Body([], [5, 6]), Body([(1, 2, 4)], [5, 6]), Body([(1, 2, 3)], [5]), Body([(1, 2, 3)], [6, 5]),
                      Body([(1, 2, 3)] * 2, [5, 6]), Body([5, 6], [(1, 2, 3)])):
            self.assertIs(body == other, False)
            self.assertIs(body != other, True)
        for other in (None, 5, "body", (((1, 2, 3),), (5, 6)), [], Policy(5, 6), Hasher(8)):
            self.assertIs(body == other, False)
            self.assertIs(other == body, False)

    def test_items(self):
        self.assertEqual(TRANSFER_TAG, 12)
        for width in (4, 64):
            for transfer in ((1, 2, 3), (0, LAST, 2 ** 90)):
                self.assertEqual(transfer_item(Hasher(width), transfer), digest(width, 12, transfer))

    def test_bodies_and_maps(self):
        chance = random.Random(2)
        for _ in range(150):
            width, pairs = chance.choice((4, 8, 64)), some_accounts(chance)
            hasher, transfers = Hasher(width), some_transfers(chance, pairs, chance.randrange(6))
            kept = dict(pairs), list(transfers)
            body = made_body(hasher, pairs, transfers)
            self.assertIs(type(body), Body)
            roots = plain.roots(width, pairs, transfers)
            self.assertEqual((body.transfers, body.roots), (tuple(transfers), tuple(roots)))
            self.assertEqual((pairs, transfers), kept)
            for root in (roots[-1], 0, 5):
                meta = meta_of(hasher, root, body)
                self.assertEqual(meta, plain.meta(width, root, transfers, roots))
                # The root of the accounts is not looked at.
                self.assertIsNone(body_fault(hasher, meta, body))

    def body(self):
        hasher = Hasher(64)
        body = made_body(hasher, {1: 5, 2: 3}, [(1, 7, 5), (2, 1, 1)])
        return hasher, body, meta_of(hasher, body.roots[-1], body)

    def test_faults_of_a_body(self):
        hasher, body, meta = self.body()
        top = 2 ** 64
        for other, fault in (
                (body, None), (Body(body.transfers[:1], body.roots), "transfers"), (Body([], body.roots), "transfers"),
                (Body(body.transfers[::-1], body.roots), "transfers"),
                (Body([(1, 7, 6), (2, 1, 1)], body.roots), "transfers"),
                (Body([(1, 7, -5), (2, 1, 1)], body.roots), "transfers"),
                (Body([(1, 7, 5), (-2 ** 70, 1, 1)], body.roots), "transfers"),
                (Body([(1, 7, 5), (2, 1, 1), (2, 1, 1)], body.roots), "transfers"),
                (Body(body.transfers, body.roots[:2]), "roots"), (Body(body.transfers, body.roots + (5,)), "roots"),
                (Body(body.transfers, ()), "roots"), (Body(body.transfers, body.roots[::-1]), "roots"),
                (Body(body.transfers, (-1, *body.roots[1:])), "roots"),
                (Body(body.transfers, (*body.roots[:2], top)), "roots"),
                (Body(body.transfers, (body.roots[0] ^ 1, *body.roots[1:])), "roots")):
            self.assertEqual(body_fault(hasher, meta, other), fault)

    def test_faults_of_a_map(self):
        hasher, body, meta = self.body()
        for key in (1, 2, 3, 4):
            less = {other: meta[other] for other in meta if other != key}
            self.assertEqual(body_fault(hasher, less, body), "keys")
            self.assertEqual(body_fault(hasher, {**less, 5: 5}, body), "keys")
        for other in ({**meta, 5: 5}, {**meta, 0: 0}, {}):
            self.assertEqual(body_fault(hasher, other, body), "keys")
        for key, fault in ((1, None), (2, "transfers"), (3, "transfers"), (4, "roots")):
            for number in (meta[key] + 1, 0, 2 ** 70):
                self.assertEqual(body_fault(hasher, {**meta, key: number}, body), fault)
        self.assertIsNone(body_fault(hasher, dict(sorted(meta.items(), reverse=True)), body))

    def test_of_two_faults_the_first(self):
        hasher, body, meta = self.body()
        for more, fault in (({5: 5}, "keys"), ({}, "transfers")):
            self.assertEqual(body_fault(hasher, {**meta, **more}, Body([(1, 7, -5)], (-1,))), fault)
        self.assertEqual(body_fault(hasher, {**meta, 5: 5}, Body(body.transfers, ())), "keys")
        self.assertEqual(body_fault(hasher, {**meta, 3: 7, 4: 7}, body), "transfers")

    def test_the_roots_one_by_one(self):
        # The root of other roots is right, but their number or one of them is not.
        hasher, body, _ = self.body()
        for roots, fault in ((body.roots + (5,), "roots"), (body.roots[:2], "roots"), ((), "roots"),
                             ((5, 6, 7), None), ((5, 6, 2 ** 64), "roots"), ((2 ** 64 - 1, 0, 0), None)):
            other = Body(body.transfers, roots)
            self.assertEqual(body_fault(hasher, meta_of(hasher, 5, other), other), fault)

    def test_no_transfers(self):
        hasher = Hasher(64)
        body = made_body(hasher, {}, [])
        self.assertEqual((body.transfers, body.roots), ((), (map_root(hasher, {}),)))
        meta = meta_of(hasher, 5, body)
        self.assertEqual(meta, {1: 5, 2: digest(64, 0, []), 3: 0, 4: digest(64, 0, [map_root(hasher, {})])})
        self.assertIsNone(body_fault(hasher, meta, body))

    def test_bodies_by_chance(self):
        chance, seen = random.Random(3), set()
        for _ in range(1500):
            hasher = Hasher(4)
            transfers = [tuple(chance.randrange(-1, 4) for _ in range(3)) for _ in range(chance.randrange(3))]
            roots = [chance.randrange(-1, 18) for _ in range(chance.randrange(4))]
            meta = {1: 5, 2: chance.randrange(16), 3: chance.randrange(3), 4: chance.randrange(16)}
            expected = None
            if any(number < 0 for transfer in transfers for number in transfer) or meta[3] != len(transfers) or (
                    meta[2] != reference_lists.root(4, plain.items(4, transfers))):
                expected = "transfers"
            elif len(roots) != len(transfers) + 1 or min(roots) < 0 or max(roots) > 15 or (
                    meta[4] != reference_lists.root(4, roots)):
                expected = "roots"
            self.assertEqual(body_fault(hasher, meta, Body(transfers, roots)), expected)
            seen.add(expected)
        self.assertEqual(seen, {None, "transfers", "roots"})


class Balances(unittest.TestCase):
    def test_balances_that_are_shown(self):
        chance = random.Random(4)
        for _ in range(200):
            width, pairs = chance.choice((4, 64)), some_accounts(chance)
            hasher = Hasher(width)
            body = made_body(hasher, pairs, [])
            meta = meta_of(hasher, body.roots[0], body)
            kept, state = (dict(meta), dict(pairs)), map_root(hasher, meta)
            for key in KEYS:
                proof = account_proof(hasher, meta, pairs, key)
                first = reference_maps.proof(width, meta, 1)
                self.assertEqual(proof, (len(first), *first, *reference_maps.proof(width, pairs, key)))
                for told in (proof, list(proof)):
                    self.assertEqual(account_check(hasher, state, key, told), pairs.get(key, 0))
            self.assertEqual((meta, pairs), kept)

    def test_proofs_that_are_refused(self):
        hasher, pairs = Hasher(64), {1: 5, 2: 3, 7: 2 ** 70}
        body = made_body(hasher, pairs, [])
        meta = meta_of(hasher, body.roots[0], body)
        state = map_root(hasher, meta)
        for key in (1, 3):
            proof = account_proof(hasher, meta, pairs, key)
            self.assertEqual(account_check(hasher, state, key, proof), pairs.get(key, 0))
            for at, more in itertools.product(range(len(proof)), (1, -1, 2 ** 70, -2 ** 70)):
                self.assertIsNone(account_check(hasher, state, key, proof[:at] + (proof[at] + more,) + proof[at + 1:]))
            for many in range(len(proof)):
                self.assertIsNone(account_check(hasher, state, key, proof[:many]))
            for told in (proof + (0,), (0,) + proof, (), (0,), (-1,), (2 ** 70,), (len(proof),), (1, 0), (0, 0)):
                self.assertIsNone(account_check(hasher, state, key, told))
            # Counted from the end, the first proof would be there.
            self.assertIsNone(account_check(hasher, state, key, (proof[0] - len(proof), *proof[1:])))
            for other in (-1, 2 ** 32, -2 ** 70, key + 2 ** 32, LAST):
                self.assertIsNone(account_check(hasher, state, other, proof))
            for root in (state + 1, -1, 0, 2 ** 70):
                self.assertIsNone(account_check(hasher, root, key, proof))

    def test_no_root_of_accounts_and_no_balance(self):
        hasher, pairs = Hasher(64), {1: 5, 2: 0}
        meta = {1: map_root(hasher, pairs), 2: 5, 3: 0, 4: 7}
        # An account of nothing is none.
        proof = account_proof(hasher, meta, pairs, 2)
        self.assertIsNone(account_check(hasher, map_root(hasher, meta), 2, proof))
        self.assertEqual(account_check(hasher, map_root(hasher, meta), 1, account_proof(hasher, meta, pairs, 1)), 5)
        lacking = {2: 5, 3: 0, 4: 7}
        proof = account_proof(hasher, lacking, pairs, 1)
        self.assertIsNone(account_check(hasher, map_root(hasher, lacking), 1, proof))

    def test_changed_proofs_at_small_widths(self):
        chance, seen = random.Random(5), {}
        for _ in range(2500):
            pairs, hasher = some_accounts(chance, 3), Hasher(4)
            meta = plain.meta(4, reference_maps.root(4, pairs), [], [3])
            state, key = reference_maps.root(4, meta), chance.choice(KEYS)
            row = list(account_proof(hasher, meta, pairs, key))
            for _ in range(chance.randint(1, 3)):
                at = chance.choice((len(row) - 1, len(row) - 2, row[0], row[0] - 1, chance.randrange(len(row))))
                row[at] = chance.choice((chance.randrange(40), row[at] + 1, row[at] - 1))
            found = account_check(hasher, state, key, row)
            self.assertEqual(found, plain.account(4, state, key, tuple(row)))
            kind = "refused"
            if found is not None:
                kind = "true" if found == pairs.get(key, 0) else "wrong"
            if kind == "wrong":
                end = 1 + row[0]
                broken = map_break(hasher, meta, 1, row[1:end]) or map_break(hasher, pairs, key, row[end:])
                self.assertIs(is_collision(hasher, broken), True)
            seen[kind] = seen.get(kind, 0) + 1
        self.assertEqual(len(seen), 3, seen)

    def test_any_integers(self):
        chance = random.Random(6)
        for _ in range(4000):
            row = tuple(chance.choice((-1, 0, 1, 2, 3, 5, 15, 16, 2 ** 70)) for _ in range(chance.randrange(9)))
            state = chance.randrange(-1, 17)
            self.assertEqual(account_check(Hasher(4), state, 1, row), plain.account(4, state, 1, row))


class Example(unittest.TestCase):
    def test_the_example(self):
        hasher = Hasher(64)
        body = made_body(hasher, {1: 5, 2: 3}, [(1, 7, 5), (2, 1, 1)])
        behind = run_transfers({1: 5, 2: 3}, [(1, 7, 5), (2, 1, 1)])
        self.assertEqual(
            repr([behind, run_transfers({1: 5}, [(1, 2, 3), (1, 2, 3)]), len(body.roots)]),
            "[('done', {1: 1, 2: 2, 7: 5}), ('fault', 1, 'balance'), 3]")
        meta = meta_of(hasher, body.roots[-1], body)
        self.assertEqual(
            [body_fault(hasher, meta, body),
             account_check(hasher, map_root(hasher, meta), 7, account_proof(hasher, meta, behind[1], 7))], [None, 5])
