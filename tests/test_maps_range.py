import itertools
import random
import unittest

from offing.hashing import Hasher
from offing.maps import map_root, range_check, range_proof
from tests import reference_maps as plain
from tests.reference import digest
from tests.test_maps import HALF, KEYS, LAST, maps


def ranges_of(pairs, chance):
    """Ranges of one key, of all keys, between entries, and of others."""
    edges = sorted({0, LAST, HALF, HALF - 1, *pairs, *[min(key + 1, LAST) for key in pairs]})
    found = [(0, LAST), (0, 0), (LAST, LAST), (0, HALF - 1), (HALF, LAST)] + [(key, key) for key in edges]
    return found + [tuple(sorted(chance.choices(edges + KEYS, k=2))) for _ in range(5)]


def told_root(width, low, high, told):
    """The root that a proof of the right shape tells."""
    return plain.read_range(width, low, high, tuple(told))[0][0][2]


class Ranges(unittest.TestCase):
    def test_proofs_worked_out_from_digests(self):
        hasher, empty = Hasher(64), digest(64, 2, [])
        low, high = digest(64, 2, [5, 50]), digest(64, 2, [HALF, 60])
        pairs = {HALF: 60, 5: 50}
        cases = [((0, LAST), (2, 1, 5, 50, 1, HALF, 60)), ((0, 9), (2, 1, 5, 50, 3, 1, high)),
                 ((6, 9), (2, 1, 5, 50, 3, 1, high)), ((HALF, HALF), (2, 3, 1, low, 1, HALF, 60)),
                 ((HALF - 1, HALF), (2, 1, 5, 50, 1, HALF, 60)), ((LAST, LAST), (2, 3, 1, low, 1, HALF, 60))]
        for (first, last), expected in cases:
            self.assertEqual(range_proof(hasher, pairs, first, last), expected)
        self.assertEqual(range_proof(hasher, {}, 3, 4), (0,))
        self.assertEqual(range_proof(hasher, {5: 50}, 8, 9), (1, 5, 50))
        pairs = {0: 1, 1: 2}
        deepest = (2, 3, 1, digest(64, 2, [0, 1]), 1, 1, 2)
        expected = (*[2] * 31, *deepest, *[3, 0, empty] * 31)
        self.assertEqual(range_proof(hasher, pairs, 1, 1), expected)
        self.assertEqual(range_proof(hasher, pairs, 0, LAST), (*[2] * 32, 1, 0, 1, 1, 1, 2, *[0] * 31))

    def test_true_proofs(self):
        chance = random.Random(1)
        for pairs in maps(chance, 2):
            kept = list(pairs.items())
            for width in (4, 64):
                hasher = Hasher(width)
                root = map_root(hasher, pairs)
                for low, high in ranges_of(pairs, chance):
                    proof = range_proof(hasher, pairs, low, high)
                    self.assertIs(type(proof), tuple)
                    self.assertEqual(proof, plain.range_proof(width, pairs, low, high))
                    expected = {key: pairs[key] for key in pairs if low <= key <= high}
                    for told in (proof, list(proof)):
                        found = range_check(hasher, root, low, high, told)
                        self.assertIs(type(found), dict)
                        self.assertEqual(found, expected, (pairs, low, high))
            self.assertEqual(list(pairs.items()), kept)

    def test_the_dict_is_new(self):
        hasher, pairs = Hasher(64), {5: 50}
        proof = range_proof(hasher, pairs, 0, 9)
        range_check(hasher, map_root(hasher, pairs), 0, 9, proof)[6] = 1
        self.assertEqual(range_check(hasher, map_root(hasher, pairs), 0, 9, proof), {5: 50})
        self.assertEqual(pairs, {5: 50})

    def test_another_root_or_range(self):
        chance, hasher = random.Random(2), Hasher(64)
        for pairs in maps(chance, 1):
            root = map_root(hasher, pairs)
            for low, high in ranges_of(pairs, chance):
                proof = range_proof(hasher, pairs, low, high)
                for other in (root ^ 1, root + 1, -1, root + 2 ** 64, -root):
                    self.assertIsNone(range_check(hasher, other, low, high, proof))
                for first, last in [(low, LAST), (0, high), (min(low + 1, high), high), (0, LAST), (low, low)]:
                    expected = plain.range_shown(64, root, first, last, proof)
                    self.assertEqual(range_check(hasher, root, first, last, proof), expected)

    def test_proofs_cut_longer_or_changed(self):
        hasher = Hasher(64)
        for pairs in ({}, {5: 50}, {5: 50, HALF: 60}, {0: 1, 2 ** 30: 2, LAST: 3}, {9: 4, 2 ** 28: 5}):
            root = map_root(hasher, pairs)
            for low, high in ((0, LAST), (5, 5), (6, 2 ** 30), (LAST, LAST)):
                proof = range_proof(hasher, pairs, low, high)
                cuts = [proof[:cut] for cut in range(len(proof))]
                for told in [*cuts, proof + (0,), proof + (1,), proof * 2, proof[1:]]:
                    self.assertIsNone(range_check(hasher, root, low, high, told))
                for at, number in enumerate(proof):
                    far = (number + 2 ** 64, number - 2 ** 64, 2 ** 900)
                    for other in (number + 1, number - 1, -1, 0, 1, 2, 3, 4, *far):
                        told = proof[:at] + (other,) + proof[at + 1:]
                        found = range_check(hasher, root, low, high, told)
                        self.assertEqual(found, plain.range_shown(64, root, low, high, told))
                        if other != number:
                            self.assertIsNone(found, (pairs, low, high, told))

    def test_other_first_numbers(self):
        for word in (-1, 4, 5, -2 ** 70, 2 ** 70):
            for told in ((word,), (word, 5, 50), (2, word, 0), (2, 0, word), (word, 0, 0)):
                for root in (digest(64, 2, []), digest(64, 2, [5, 50]), 0):
                    self.assertIsNone(range_check(Hasher(64), root, 0, LAST, told))

    def test_the_empty_tuple(self):
        for root in (0, digest(64, 2, [])):
            for told in ((), []):
                self.assertIsNone(range_check(Hasher(64), root, 0, LAST, told))


class Shapes(unittest.TestCase):
    """Proofs are made with the root that they tell, so that their shape alone decides."""

    def answer(self, low, high, told, root):
        found = range_check(Hasher(64), root, low, high, told)
        self.assertEqual(found, plain.range_shown(64, root, low, high, told))
        return found

    def test_a_node_in_which_no_key_belongs_may_be_told_otherwise(self):
        hasher = Hasher(64)
        for pairs in ({HALF: 1}, {5: 1, HALF: 2}, {5: 1, HALF: 2, LAST: 3}, {5: 1, HALF: 2, HALF + 1: 3}, {0: 9, 1: 8}):
            root = map_root(hasher, pairs)
            for wide in ((0, LAST), (0, HALF), (5, HALF + 1)):
                told = range_proof(hasher, pairs, *wide)
                for low, high in ((0, 9), (6, 7), (0, 0), (5, 5)):
                    if wide[1] >= high and wide[0] <= low:
                        expected = {key: value for key, value in pairs.items() if low <= key <= high}
                        self.assertEqual(self.answer(low, high, told, root), expected)

    def test_each_way_to_tell_a_node_in_which_no_key_belongs(self):
        for right, inside in (((0,), {}), ((1, HALF, 4), {}), ((2, 0, 1, LAST, 4), {}), ((3, 7, 9), {}),
                              ((2, 3, 1, 2, 1, LAST, 4), {}), ((2, 3, 1, 2, 2, 3, 0, 0, 0), {})):
            told = (2, 1, 5, 50, *right)
            root = told_root(64, 0, 9, told)
            self.assertEqual(self.answer(0, 9, told, root), {5: 50} | inside)
            self.assertEqual(self.answer(6, 9, told, root), {})

    def test_a_node_told_by_its_digest_in_which_a_key_belongs(self):
        for low, high, told in ((0, LAST, (3, 2, 9)), (5, 5, (3, 0, digest(64, 2, []))), (0, 9, (2, 3, 1, 9, 3, 1, 9)),
                                (HALF, HALF, (2, 3, 1, 9, 3, 1, 9)), (HALF - 1, HALF - 1, (2, 3, 1, 9, 0)),
                                (HALF, HALF, (2, 0, 2, 3, 1, 8, 0)), (HALF + 2 ** 30 - 1, LAST, (2, 0, 2, 3, 1, 8, 0))):
            root = told_root(64, 2 ** 32, 2 ** 32, told)
            self.assertIsNone(self.answer(low, high, told, root))
        told = (2, 0, 2, 3, 1, 8, 0)
        self.assertEqual(self.answer(HALF + 2 ** 30, LAST, told, told_root(64, LAST, LAST, told)), {})
        told = (2, 0, 2, 0, 3, 1, 8)
        self.assertEqual(self.answer(HALF, HALF + 2 ** 30 - 1, told, told_root(64, 0, 0, told)), {})

    def test_numbers_of_nodes_told_by_their_digests(self):
        for many, number in itertools.product((-1, 0, 1, 2 ** 70), (-1, 0, 2 ** 64 - 1, 2 ** 64)):
            told = (2, 0, 3, many, number)
            root = Hasher(64).digest(3, [0, digest(64, 2, []), many, number])
            expected = {} if many >= 0 and 0 <= number < 2 ** 64 else None
            self.assertEqual(self.answer(0, 9, told, root), expected)

    def test_entries_in_nodes_in_which_they_do_not_belong(self):
        for key, other in ((HALF, 5), (LAST, HALF - 1), (0, LAST), (-1, -1), (2 ** 32, 2 ** 32), (5, 2 ** 33)):
            empty, entry = digest(64, 2, []), Hasher(64).digest(2, [key, 4])
            expected = {key: 4} if 0 <= key < HALF else None
            self.assertEqual(
                self.answer(0, LAST, (2, 1, key, 4, 0), Hasher(64).digest(3, [1, entry, 0, empty])), expected)
            entry, expected = Hasher(64).digest(2, [other, 4]), {other: 4} if HALF <= other <= LAST else None
            self.assertEqual(
                self.answer(0, LAST, (2, 0, 1, other, 4), Hasher(64).digest(3, [0, empty, 1, entry])), expected)
        for depth in (0, 1, 2, 31, 32):
            for bit in range(32):
                key = 1 << (31 - bit)
                told = (*[2] * depth, 1, key, 4, *[0] * depth)
                node, many = Hasher(64).digest(2, [key, 4]), 1
                for _ in range(depth):
                    node = digest(64, 3, [many, node, 0, digest(64, 2, [])])
                self.assertEqual(self.answer(0, LAST, told, node), {key: 4} if bit >= depth else None)

    def test_negative_values(self):
        for value in (-1, -2 ** 70):
            root = Hasher(64).digest(2, [5, value])
            self.assertIsNone(self.answer(0, 9, (1, 5, value), root))
            root = Hasher(64).digest(3, [0, digest(64, 2, []), 1, Hasher(64).digest(2, [HALF, value])])
            self.assertIsNone(self.answer(0, 9, (2, 0, 1, HALF, value), root))
        self.assertEqual(self.answer(0, 9, (1, 5, 0), digest(64, 2, [5, 0])), {5: 0})

    def test_how_deep_nodes_may_be(self):
        empty = digest(64, 2, [])
        for deepest, depth in itertools.product(((0,), (1, 0, 4)), (31, 32, 33, 34)):
            told = (*[2] * depth, *deepest, *[0] * depth)
            node, many = (digest(64, 2, deepest[1:]), len(deepest) // 2)
            for _ in range(depth):
                node = digest(64, 3, [many, node, 0, empty])
            expected = {0: 4} if many else {}
            self.assertEqual(self.answer(0, LAST, told, node), expected if depth <= 32 else None)
        told = (*[2] * 32, 0, *[3, 1, 7] * 32)
        self.assertEqual(self.answer(0, 0, told, told_root(64, 0, 0, told)), {})
        told = (*[2] * 33, 0, *[3, 1, 7] * 33)
        node = empty
        for at in range(33):
            node = digest(64, 3, [at, node, 1, 7])
        self.assertIsNone(self.answer(0, 0, told, node))

    def test_of_the_sums_nothing_is_asked(self):
        for told in ((2, 0, 0), (2, 1, 5, 4, 0), (2, 0, 1, LAST, 4), (2, 2, 0, 0, 0)):
            found = self.answer(0, LAST, told, told_root(64, 0, LAST, told))
            self.assertEqual(sorted(found), [number for number in (5, LAST) if number in told])

    def test_long_proofs(self):
        for told in ((2,) * 20000, (0,) * 20000, (2, 0) * 20000, (3,) * 9999, (1,) * 9999, (2,) * 32 + (0,) * 20000):
            for low, high in ((0, LAST), (5, 5), (LAST, LAST)):
                self.assertIsNone(range_check(Hasher(16), 5, low, high, told))
        full = (0,)
        for _ in range(10):
            full = (2, *full, *full)
        self.assertEqual(self.answer(0, LAST, full, told_root(64, 0, LAST, full)), {})

    def test_shapes_by_chance(self):
        chance, answers = random.Random(3), {}
        for _ in range(20000):
            told, waiting = [], 1
            while waiting and len(told) < 20:
                word = chance.choice((0, 1, 2, 2, 3))
                waiting += 1 if word == 2 else -1
                told.append(word)
                if word == 1:
                    told += [chance.choice((0, 5, HALF, LAST, 2 ** 30, -1)), chance.choice((0, 3, -1))]
                elif word == 3:
                    told += [chance.choice((0, 1, 2, -1)), chance.randint(-1, 16)]
            low, high = sorted(chance.choices((0, 5, HALF - 1, HALF, LAST, 2 ** 30), k=2))
            root = chance.randrange(16)
            try:
                root = told_root(4, low, high, told)
            except plain.Refused:
                pass
            found = range_check(Hasher(4), root, low, high, told)
            self.assertEqual(found, plain.range_shown(4, root, low, high, told), told)
            word = "refused" if found is None else min(len(found), 2)
            answers[word] = answers.get(word, 0) + 1
        self.assertEqual(sorted(map(str, answers)), ["0", "1", "2", "refused"])

    def test_beyond_the_bounds_no_error_is_raised(self):
        hasher = Hasher(16)
        for pairs in ({}, {5: 1}, {5: 1, HALF: 2}, {5: 1, 5 + 2 ** 32: 2}):
            for low, high in ((-5, 3), (-5, -1), (5, 2 ** 33), (2 ** 32, 2 ** 33), (9, 3), (LAST, 0)):
                range_check(hasher, map_root(hasher, pairs), low, high, range_proof(hasher, pairs, low, high))

    def test_the_example(self):
        hasher = Hasher(64)
        pairs = {5: 50, 1 << 31: 60}
        self.assertEqual(range_check(hasher, map_root(hasher, pairs), 0, 9, range_proof(hasher, pairs, 0, 9)), {5: 50})
