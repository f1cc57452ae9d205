import itertools
import random
import unittest

from offing.hashing import Hasher, is_collision
from offing.lists import growth_break, growth_check, growth_proof, list_break, list_check, list_proof, list_root
from tests import reference_lists as plain


def first_told_otherwise(own, told):
    """The collision of the first place in which two rows of inputs differ, or None."""
    for mine, theirs in zip(own, told, strict=True):
        if mine != theirs:
            return ("collision", mine, theirs)
    return None


class ListBreaks(unittest.TestCase):
    def check(self, width, items, k, item, told, kinds):
        """Compare a break with the rule, and count at which depth the inputs differ."""
        hasher, kept = Hasher(width), list(items)
        answer = list_break(hasher, items, k, item, told)
        self.assertEqual(items, kept)
        root = plain.root(width, items)
        if not plain.accepted(width, root, len(items), k, item, told):
            self.assertIsNone(answer)
            kinds["refused"] = kinds.get("refused", 0) + 1
            return
        own = plain.made(width, len(items), k, items[k], plain.proof(width, items, k))
        expected = first_told_otherwise(own, plain.made(width, len(items), k, item, tuple(told)))
        self.assertEqual(answer, expected)
        if answer is None:
            self.assertEqual((item, tuple(told)), (items[k], plain.proof(width, items, k)))
        else:
            self.assertIs(is_collision(hasher, answer), True)
            self.assertIn(answer[1], own)
        kind = "true" if answer is None else (answer[1][0], own.index(answer[1]))
        kinds[kind] = kinds.get(kind, 0) + 1

    def test_all_proofs_of_short_lists(self):
        kinds = {}
        for items in ([5], [5, 9], [5, 9, 5], [1, 2, 3]):
            for k in range(-1, len(items) + 1):
                steps = len(plain.proof(4, items, k)) if 0 <= k < len(items) else 1
                leaf = Hasher(4).digest(0, [items[k % len(items)]])
                alike = [item for item in range(99) if Hasher(4).digest(0, [item]) == leaf]
                for told in itertools.product(range(-1, 17), repeat=steps):
                    for item in (5, 9, 2 ** 40, *alike[:3]):
                        self.check(4, items, k, item, told, kinds)
        for kind in ("refused", "true", (0, 0), (0, 1), (1, 0), (1, 1)):
            self.assertIn(kind, kinds)

    def test_proofs_by_chance(self):
        chance, kinds = random.Random(3), {}
        for _ in range(6000):
            width = chance.choice((4, 5, 6))
            items = [chance.randrange(30) for _ in range(chance.randrange(1, 10))]
            k = chance.randrange(len(items))
            told = list(list_proof(Hasher(width), items, k))
            for _ in range(chance.randrange(3)):
                if told:
                    told[chance.randrange(len(told))] = chance.randrange(2 ** width)
            self.check(width, items, k, chance.choice((items[k], chance.randrange(40))), told, kinds)
        for kind in ("refused", "true", (0, 0), (0, 2), (0, 3), (1, 0), (1, 1), (1, 2)):
            self.assertIn(kind, kinds)

    def test_another_item_that_has_the_digest_of_the_true_one(self):
        hasher, items = Hasher(8), [3, 4, 5]
        proof, leaf = list_proof(hasher, items, 1), hasher.digest(0, [4])
        others = [item for item in range(5000) if item != 4 and hasher.digest(0, [item]) == leaf]
        self.assertGreater(len(others), 5)
        for item in others:
            self.assertEqual(list_break(hasher, items, 1, item, proof), ("collision", (0, (4,)), (0, (item,))))

    def test_true_and_refused_proofs(self):
        hasher = Hasher(64)
        for many in range(12):
            items = [50 + k for k in range(many)]
            for k in range(many):
                proof = list_proof(hasher, items, k)
                for told in (proof, list(proof)):
                    self.assertIsNone(list_break(hasher, items, k, items[k], told))
                self.assertIsNone(list_break(hasher, items, k, items[k] + 1, proof))
                self.assertIsNone(list_break(hasher, items, k, -1, proof))
                self.assertIsNone(list_break(hasher, items, k + 1, items[k], proof))
                self.assertIsNone(list_break(hasher, items, k, items[k], proof + (0,)))
            for k in (-1, -many, many, many + 1, 2 ** 3000):
                self.assertIsNone(list_break(hasher, items, k, 50, ()))

    def test_a_negative_item_is_no_break(self):
        for width in (4, 64):
            items = [2 ** 32 - 1]
            self.assertIsNone(list_break(Hasher(width), items, 0, -1, ()))


class GrowthBreaks(unittest.TestCase):
    def check(self, width, items, old_root, old, told, kinds):
        hasher, kept = Hasher(width), list(items)
        answer = growth_break(hasher, items, old_root, old, told)
        self.assertEqual(items, kept)
        root = plain.root(width, items)
        if not plain.growth_accepted(width, old_root, old, root, len(items), told):
            self.assertIsNone(answer)
            kinds["refused"] = kinds.get("refused", 0) + 1
            return
        own, expected = [], None
        if items:
            own = plain.growth_inputs(width, len(items), old, plain.growth(width, items, old))
            expected = first_told_otherwise(own, plain.growth_inputs(width, len(items), old, told))
        self.assertEqual(answer, expected)
        if answer is None:
            self.assertEqual(tuple(told), plain.growth(width, items, old))
            self.assertEqual(old_root, plain.root(width, items[:old]))
        else:
            self.assertIs(is_collision(hasher, answer), True)
        kind = "true" if answer is None else own.index(answer[1])
        if answer is not None and old_root == plain.root(width, items[:old]):
            kinds["old root is true"] = True
        kinds[kind] = kinds.get(kind, 0) + 1

    def test_all_proofs_of_short_lists(self):
        kinds = {}
        for items in ([], [5], [5, 9], [5, 9, 6]):
            root = plain.root(4, items)
            for old in range(-1, len(items) + 2):
                steps = len(plain.growth(4, items, old)) if 0 <= old <= len(items) else 1
                for told in itertools.product(range(16), repeat=steps):
                    if steps == 3 and sum(told) % 3:
                        continue
                    roots = {root, plain.root(4, items[:max(old, 0)]), 7}
                    if steps > 1:
                        roots.add(told[0])
                    for old_root in roots:
                        self.check(4, items, old_root, old, told, kinds)
        for kind in ("refused", "true", "old root is true", 0, 1):
            self.assertIn(kind, kinds)

    def test_proofs_by_chance(self):
        chance, kinds = random.Random(4), {}
        for _ in range(8000):
            width = chance.choice((4, 5))
            items = [chance.randrange(30) for _ in range(chance.randrange(1, 12))]
            old = chance.randint(0, len(items))
            told = list(growth_proof(Hasher(width), items, old))
            for _ in range(chance.randrange(4)):
                told[chance.randrange(len(told))] = chance.randrange(2 ** width)
            old_root = plain.root(width, items[:old])
            _, nodes, _, _ = plain.grown(width, len(items), old, tuple(told))
            if nodes and chance.randrange(4):
                old_root = plain.joined(width, nodes)
            self.check(width, items, old_root, old, told, kinds)
        for kind in ("refused", "true", "old root is true", 0, 1, 2, 3):
            self.assertIn(kind, kinds)

    def test_true_and_refused_proofs(self):
        hasher = Hasher(64)
        for many in range(12):
            items = [50 + k for k in range(many)]
            root = list_root(hasher, items)
            for old in range(many + 1):
                proof, old_root = growth_proof(hasher, items, old), list_root(hasher, items[:old])
                self.assertIs(growth_check(hasher, old_root, old, root, many, proof), True)
                for told in (proof, list(proof)):
                    self.assertIsNone(growth_break(hasher, items, old_root, old, told))
                self.assertIsNone(growth_break(hasher, items, old_root ^ 1, old, proof))
                self.assertIsNone(growth_break(hasher, items, old_root, old, proof + (1,)))
            for old in (-1, many + 1, 2 ** 3000, -2 ** 3000):
                for told in ((), (root,)):
                    self.assertIsNone(growth_break(hasher, items, root, old, told))
                    self.assertIs(list_check(hasher, root, many, old, 50, told), False)
