import itertools
import random
import unittest

from offing.hashing import Hasher, is_collision
from offing.maps import map_break, map_check, map_proof, map_root, range_break, range_check, range_proof
from tests import reference_maps as plain
from tests.reference import digest
from tests.test_maps import HALF, KEYS, LAST

SMALL = [0, 1, 2 ** 30, HALF, HALF + 1, LAST]


def some_map(chance, many=4):
    return {chance.choice(SMALL): chance.randrange(9) for _ in range(chance.randrange(many + 1))}


def entries_of_one_digest(width, prefix, node):
    """Entries that belong below a prefix and have the digest of this node."""
    first, last = plain.bounds(prefix)
    keys = [first, first + 1, last]
    pairs = itertools.product(keys, range(200))
    return [pair for pair in pairs if (2, pair) != node and digest(width, 2, list(pair)) == digest(width, *node)]


class KeyBreaks(unittest.TestCase):
    def check(self, width, pairs, key, told, kinds):
        """Compare a break with the rule, and count the depths at which the inputs differ."""
        hasher, kept = Hasher(width), dict(pairs)
        answer = map_break(hasher, pairs, key, told)
        self.assertEqual(pairs, kept)
        kind = "refused"
        if not plain.accepted(width, plain.root(width, pairs), key, told):
            self.assertIsNone(answer)
        else:
            own = plain.inputs(width, key, plain.proof(width, pairs, key))
            theirs = plain.inputs(width, key, told)
            places = [at for at, (one, other) in enumerate(zip(own, theirs)) if one != other]
            if not places:
                self.assertIsNone(answer)
                self.assertEqual(tuple(told), plain.proof(width, pairs, key))
                kind = "true"
            else:
                kind = (own[places[0]][0], theirs[places[0]][0], places[0])
                self.assertEqual(answer, ("collision", own[places[0]], theirs[places[0]]))
                self.assertIs(is_collision(hasher, answer), True)
        kinds[kind] = kinds.get(kind, 0) + 1

    def test_proofs_by_chance(self):
        chance, kinds = random.Random(1), {}
        for _ in range(9000):
            width, pairs, key = chance.choice((4, 4, 5)), some_map(chance), chance.choice(SMALL)
            told = list(plain.proof(width, pairs, key))
            if chance.randrange(3):
                # The first nodes stay, and those below them are told at random.
                kept, more = min(told[0], chance.randrange(3)), chance.randrange(3)
                told = [kept + more] + told[1:1 + 2 * kept]
                told += [chance.randrange(1 + at % 2 * 15 + 2) for at in range(2 * more)]
                told += [chance.choice((key, key ^ 1)), chance.randrange(30)] if chance.randrange(4) else []
            elif len(told) < 12 or chance.randrange(20) == 0:
                told[chance.randrange(len(told))] = chance.randrange(17)
            self.check(width, pairs, key, told, kinds)
        for kind in ("refused", "true", (2, 2, 0), (2, 3, 0), (3, 2, 0), (3, 3, 0), (2, 2, 1), (3, 3, 1), (2, 3, 1)):
            self.assertIn(kind, kinds)

    def test_all_proofs_of_a_small_map(self):
        kinds = {}
        for pairs in ({}, {0: 1}, {0: 1, HALF: 2}):
            for key in (0, 1, HALF):
                for end in ((), (0, 1), (0, 5), (0, 18), (1, 1), (1, 7), (HALF, 2), (HALF, 9), (key, 30)):
                    self.check(4, pairs, key, (0, *end), kinds)
                    for many, number in itertools.product(range(4), range(-1, 17)):
                        self.check(4, pairs, key, (1, many, number, *end), kinds)
        self.assertGreater(len(kinds), 4)

    def test_another_value_that_has_the_digest_of_the_true_one(self):
        hasher, pairs = Hasher(8), {0: 1, 1: 3, HALF: 2}
        for key in (0, 1, HALF):
            proof, own = map_proof(hasher, pairs, key), (2, (key, pairs[key]))
            others = [value for value in range(4000) if value != pairs[key] and
                      hasher.digest(2, [key, value]) == hasher.digest(*own)]
            self.assertGreater(len(others), 3)
            for value in others:
                told = (*proof[:-1], value)
                self.assertEqual(map_check(hasher, map_root(hasher, pairs), key, told), ("value", value))
                self.assertEqual(map_break(hasher, pairs, key, told), ("collision", own, (2, (key, value))))

    def test_an_entry_that_has_the_digest_of_no_entry(self):
        hasher = Hasher(6)
        for value in range(500):
            if hasher.digest(2, [9, value]) == hasher.digest(2, []):
                self.assertEqual(map_break(hasher, {}, 9, (0, 9, value)), ("collision", (2, ()), (2, (9, value))))
                self.assertEqual(map_break(hasher, {9: value}, 9, (0,)), ("collision", (2, (9, value)), (2, ())))

    def test_true_and_refused_proofs(self):
        hasher, chance = Hasher(64), random.Random(2)
        for _ in range(60):
            pairs = {chance.choice(KEYS): chance.randrange(9) for _ in range(chance.randrange(7))}
            for key in chance.sample(KEYS, 3):
                proof = map_proof(hasher, pairs, key)
                for told in (proof, list(proof)):
                    self.assertIsNone(map_break(hasher, pairs, key, told))
                for told in (proof + (0,), proof[:-1], (), (-1,) + proof[1:], (33,) + proof[1:]):
                    self.assertIsNone(map_break(hasher, pairs, key, told))
                for other in (-1, -2 ** 70, 2 ** 32, key + 2 ** 32):
                    self.assertIsNone(map_break(hasher, pairs, other, proof))


class RangeBreaks(unittest.TestCase):
    def check(self, width, pairs, low, high, told, kinds):
        hasher, kept = Hasher(width), dict(pairs)
        answer = range_break(hasher, pairs, low, high, told)
        self.assertEqual(pairs, kept)
        rows = plain.range_rows(width, plain.root(width, pairs), low, high, told)
        kind = "refused"
        if rows is None:
            self.assertIsNone(answer)
        else:
            expected = plain.range_difference(width, pairs, rows)
            self.assertEqual(answer, expected)
            kind = "as it is"
            if answer is None:
                shown = {key: value for key, value in pairs.items() if low <= key <= high}
                self.assertEqual(range_check(hasher, plain.root(width, pairs), low, high, told), shown)
                if tuple(told) != plain.range_proof(width, pairs, low, high):
                    kind = "as it is, told in another way"
            else:
                self.assertIs(is_collision(hasher, answer), True)
                at, = [at for at, row in enumerate(rows) if row[3] == answer[2]][:1]
                kind = "root" if at == 0 else "left" if rows[at][0].endswith("0") else "right"
        kinds[kind] = kinds.get(kind, 0) + 1

    def test_proofs_by_chance(self):
        chance, kinds = random.Random(3), {}
        for _ in range(12000):
            width, pairs = chance.choice((4, 4, 5)), some_map(chance)
            low, high = sorted(chance.choices(SMALL + [5, HALF - 1], k=2))
            wide = chance.choice(((low, high), (low, high), (0, LAST), (min(low, HALF), max(high, HALF))))
            told = list(plain.range_proof(width, pairs, *wide))
            if len(told) > 60 and chance.randrange(10):
                continue
            for _ in range(chance.randrange(4)):
                at = chance.randrange(len(told))
                told[at] = chance.choice((chance.randrange(17), told[at] ^ 1, told[at] ^ 2 ** 20))
            self.check(width, pairs, low, high, told, kinds)
        for kind in ("refused", "as it is", "as it is, told in another way", "root", "left", "right"):
            self.assertIn(kind, kinds)

    def test_shapes_by_chance(self):
        chance, kinds = random.Random(4), {}
        for _ in range(12000):
            told, waiting = [], 1
            while waiting and len(told) < 16:
                word = chance.choice((0, 1, 1, 2, 2, 3))
                waiting += 1 if word == 2 else -1
                told.append(word)
                if word == 1:
                    told += [chance.choice(SMALL), chance.randrange(9)]
                elif word == 3:
                    told += [chance.randrange(3), chance.randrange(16)]
            low, high = sorted(chance.choices(SMALL, k=2))
            self.check(4, some_map(chance, 3), low, high, told, kinds)
        for kind in ("refused", "root"):
            self.assertIn(kind, kinds)

    def test_the_left_part_comes_before_the_right_one(self):
        hasher = Hasher(6)
        for pairs in ({0: 1, LAST: 2}, {7: 4, HALF: 5}):
            low, high = [(2, pair) for pair in sorted(pairs.items())]
            lows, highs = entries_of_one_digest(6, "0", low), entries_of_one_digest(6, "1", high)
            self.assertGreater(min(len(lows), len(highs)), 3)
            for left, right in itertools.product(lows[:4], highs[:4]):
                told = (2, 1, *left, 1, *right)
                self.assertEqual(range_break(hasher, pairs, 0, LAST, told), ("collision", low, (2, left)))
                self.assertEqual(range_check(hasher, map_root(hasher, pairs), 0, LAST, told), dict([left, right]))
                told = (2, 1, *low[1], 1, *right)
                self.assertEqual(range_break(hasher, pairs, 0, LAST, told), ("collision", high, (2, right)))

    def test_a_node_comes_before_its_parts(self):
        hasher, pairs, tried = Hasher(4), {0: 1, HALF: 2}, 0
        own = plain.source(4, pairs)
        for left, right in itertools.product(entries_of_one_digest(4, "0", (2, (0, 1)))[:3], range(200)):
            told = (2, 1, *left, 1, LAST, right)
            node = (3, (1, digest(4, 2, list(left)), 1, digest(4, 2, [LAST, right])))
            if node != own and digest(4, *node) == digest(4, *own):
                self.assertEqual(range_break(hasher, pairs, 0, LAST, told), ("collision", own, node))
                tried += 1
        self.assertGreater(tried, 10)

    def test_a_wrong_node_beside_the_range(self):
        hasher = Hasher(6)
        pairs = {5: 1, HALF: 2}
        for entry in entries_of_one_digest(6, "1", (2, (HALF, 2)))[:5]:
            told = (2, 1, 5, 1, 1, *entry)
            self.assertEqual(range_check(hasher, map_root(hasher, pairs), 0, 9, told), {5: 1})
            self.assertEqual(range_break(hasher, pairs, 0, 9, told), ("collision", (2, (HALF, 2)), (2, entry)))

    def test_true_and_refused_proofs(self):
        hasher, chance = Hasher(64), random.Random(5)
        for _ in range(60):
            pairs = {chance.choice(KEYS): chance.randrange(9) for _ in range(chance.randrange(7))}
            low, high = sorted(chance.choices(KEYS, k=2))
            proof = range_proof(hasher, pairs, low, high)
            for told in (proof, list(proof), range_proof(hasher, pairs, 0, LAST)):
                self.assertIsNone(range_break(hasher, pairs, low, high, told))
            for told in (proof + (0,), proof[:-1], (), (4,), (2,) * 500, (3, 0, 0)):
                self.assertIsNone(range_break(hasher, pairs, low, high, told))
