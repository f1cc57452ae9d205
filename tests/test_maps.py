import itertools
import random
import unittest

from offing.hashing import Hasher
from offing.maps import map_changed, map_check, map_proof, map_root
from tests import reference_maps as plain
from tests.reference import digest

LAST = 2 ** 32 - 1
HALF = 2 ** 31
KEYS = [0, 1, 2, 3, 5, 6, 7, HALF - 1, HALF, HALF + 1, LAST - 1, LAST, 2 ** 16, 3 * 2 ** 30]


def maps(chance, many=3):
    """Maps with 0 to 12 entries, of keys that are near to each other and of others."""
    for size in range(13):
        for _ in range(many):
            keys = chance.sample(sorted(set(KEYS + [chance.getrandbits(32) for _ in range(6)])), size)
            yield {key: chance.choice((0, 1, key, 2 ** 70, chance.randrange(9))) for key in keys}


class Roots(unittest.TestCase):
    def test_roots_worked_out_from_digests(self):
        for width in (4, 64, 128):
            hasher = Hasher(width)
            empty, five = digest(width, 2, []), digest(width, 2, [5, 50])
            high, low = digest(width, 2, [HALF, 60]), digest(width, 2, [0, 7])
            self.assertEqual(map_root(hasher, {}), empty)
            self.assertEqual(map_root(hasher, {5: 50}), five)
            self.assertEqual(map_root(hasher, {HALF: 60}), high)
            self.assertEqual(map_root(hasher, {5: 50, HALF: 60}), digest(width, 3, [1, five, 1, high]))
            node = digest(width, 3, [1, low, 1, five])
            for _ in range(28):
                node = digest(width, 3, [2, node, 0, empty])
            self.assertEqual(map_root(hasher, {0: 7, 5: 50}), digest(width, 3, [2, node, 0, empty]))
            self.assertEqual(map_root(hasher, {0: 7, 5: 50, HALF: 60}), digest(width, 3, [2, node, 1, high]))

    def test_keys_that_differ_in_the_last_bit_alone(self):
        empty = digest(64, 2, [])
        for key in (6, 0, LAST - 1, HALF, 0b10110 << 27):
            node = digest(64, 3, [1, digest(64, 2, [key, 1]), 1, digest(64, 2, [key + 1, 2])])
            for weight in range(1, 32):
                pair = [0, empty, 2, node] if key & 1 << weight else [2, node, 0, empty]
                node = digest(64, 3, pair)
            self.assertEqual(map_root(Hasher(64), {key: 1, key + 1: 2}), node)

    def test_roots_do_not_depend_on_the_order(self):
        chance = random.Random(1)
        for pairs in maps(chance):
            kept = list(pairs.items())
            for width in (5, 64):
                root = map_root(Hasher(width), pairs)
                self.assertEqual(root, plain.root(width, pairs))
                for _ in range(3):
                    shuffled = chance.sample(kept, len(kept))
                    self.assertEqual(map_root(Hasher(width), dict(shuffled)), root)
            self.assertEqual(list(pairs.items()), kept)

    def test_different_maps_have_different_roots(self):
        found = {}
        for pairs in maps(random.Random(2), 5):
            found[map_root(Hasher(128), pairs)] = tuple(sorted(pairs.items()))
            for key in pairs:
                other = {**pairs, key: pairs[key] + 1}
                found[map_root(Hasher(128), other)] = tuple(sorted(other.items()))
        self.assertEqual(len(found), len(set(found.values())))

    def test_beyond_the_keys_no_error_is_raised(self):
        hasher = Hasher(16)
        for pairs in ({5: 1, 5 + 2 ** 32: 2}, {-1: 1, LAST: 2}, {2 ** 40: 1}, {0: -5, 1: -2 ** 70}):
            root = map_root(hasher, pairs)
            for key in list(pairs) + [-1, 2 ** 32, 2 ** 90]:
                self.assertIs(type(map_proof(hasher, pairs, key)), tuple)
                map_check(hasher, root, key, map_proof(hasher, pairs, key))


class Proofs(unittest.TestCase):
    def test_proofs_worked_out_from_digests(self):
        hasher, empty = Hasher(64), digest(64, 2, [])
        five, high = digest(64, 2, [5, 50]), digest(64, 2, [HALF, 60])
        self.assertEqual(map_proof(hasher, {}, 5), (0,))
        self.assertEqual(map_proof(hasher, {5: 50}, 5), (0, 5, 50))
        self.assertEqual(map_proof(hasher, {5: 50}, LAST), (0, 5, 50))
        self.assertEqual(map_proof(hasher, {5: 50, HALF: 60}, 7), (1, 1, high, 5, 50))
        self.assertEqual(map_proof(hasher, {5: 50, HALF: 60}, LAST), (1, 1, five, HALF, 60))
        both = digest(64, 3, [1, digest(64, 2, [6, 1]), 1, digest(64, 2, [7, 2])])
        self.assertEqual(map_proof(hasher, {6: 1, 7: 2}, LAST)[:2], (1, 2))
        self.assertEqual(len(map_proof(hasher, {6: 1, 7: 2}, LAST)), 3)
        told = map_proof(hasher, {6: 1, 7: 2}, 6)
        self.assertEqual(told, (32, *[0, empty] * 31, 1, digest(64, 2, [7, 2]), 6, 1))
        self.assertEqual(map_proof(hasher, {6: 1, 7: 2}, 5), (31, *[0, empty] * 30, 2, both))

    def test_true_proofs(self):
        chance = random.Random(3)
        for pairs in maps(chance):
            kept = dict(pairs)
            for width in (4, 64):
                hasher = Hasher(width)
                root = map_root(hasher, pairs)
                for key in {*KEYS, *pairs, *[key ^ 1 for key in pairs], chance.getrandbits(32)}:
                    proof = map_proof(hasher, pairs, key)
                    self.assertIs(type(proof), tuple)
                    self.assertEqual(proof, plain.proof(width, pairs, key))
                    expected = ("value", pairs[key]) if key in pairs else ("absent",)
                    self.assertEqual(map_check(hasher, root, key, proof), expected)
                    self.assertEqual(map_check(hasher, root, key, list(proof)), expected)
            self.assertEqual(pairs, kept)

    def test_another_key_or_root(self):
        hasher = Hasher(64)
        for pairs in maps(random.Random(4), 1):
            root = map_root(hasher, pairs)
            for key in KEYS:
                proof = map_proof(hasher, pairs, key)
                for other in KEYS + [key ^ 1, key ^ HALF, -1, -key - 1, key + 2 ** 32, key - 2 ** 32, 2 ** 90]:
                    self.assertEqual(map_check(hasher, root, other, proof), plain.shown(64, root, other, proof))
                    if other not in range(2 ** 32):
                        self.assertIsNone(map_check(hasher, root, other, proof))
                for other in (root + 1, root ^ 1, -1, root + 2 ** 64, -root):
                    self.assertIsNone(map_check(hasher, other, key, proof))

    def test_proofs_cut_longer_or_changed(self):
        hasher = Hasher(64)
        for pairs in maps(random.Random(5), 1):
            root = map_root(hasher, pairs)
            for key in [*pairs, 0, LAST][-3:]:
                proof = map_proof(hasher, pairs, key)
                bad = [proof[:cut] for cut in range(len(proof))] + [proof[1:], proof + (0,), proof + (0, 0), proof * 2]
                bad += [proof + (key, 0), proof[:-1] + (0,) + proof[-1:]]
                for at, number in enumerate(proof):
                    far = (number + 2 ** 64, number - 2 ** 64, 2 ** 3000)
                    for other in (number + 1, number - 1, -1, -number - 1, *far):
                        bad.append(proof[:at] + (other,) + proof[at + 1:])
                for told in bad:
                    self.assertIsNone(map_check(hasher, root, key, told), (pairs, key, told))
                    self.assertIsNone(map_changed(hasher, root, key, 5, told))
                    self.assertIsNone(map_changed(hasher, root, key, None, told))

    def test_the_depth(self):
        hasher = Hasher(64)
        pairs = {6: 1, 7: 2}
        root, proof = map_root(hasher, pairs), map_proof(hasher, pairs, 6)
        self.assertEqual(proof[0], 32)
        self.assertEqual(map_check(hasher, root, 6, proof), ("value", 1))
        for depth in (-33, -1, 0, 31, 33, 64, 2 ** 3000, -2 ** 3000):
            self.assertIsNone(map_check(hasher, root, 6, (depth, *proof[1:])))
        deeper = (33, *proof[1:-2], 0, 0, *proof[-2:])
        top = digest(64, *plain.inputs(64, 6, (32, *deeper[1:63], 0, digest(64, 2, []), 6, 1))[0])
        self.assertIsNone(map_check(hasher, top, 6, deeper))
        for told in ((-1,), (-1, 6, 1), (-2, 5), (33, *[0, 0] * 33), (33, *[0, 0] * 33, 6, 1), (2 ** 70, 1, 1)):
            for root in (digest(64, 2, []), digest(64, 2, [6, 1]), 0):
                self.assertIsNone(map_check(hasher, root, 6, told))

    def test_the_empty_tuple(self):
        for width in (4, 64):
            for root in (0, digest(width, 2, [])):
                for told in ((), []):
                    self.assertIsNone(map_check(Hasher(width), root, 5, told))
                    self.assertIsNone(map_changed(Hasher(width), root, 5, 1, told))

    def made_root(self, width, key, told):
        """The root made of a proof, whatever its end and its numbers are."""
        node, many, depth = (2, tuple(told[1 + 2 * told[0]:])), 1, told[0]
        for level in range(depth, 0, -1):
            mine, other = (many, digest(width, *node)), tuple(told[2 * level - 1:2 * level + 1])
            node = (3, mine + other if plain.bits(key)[level - 1] == "0" else other + mine)
            many += other[0]
        return Hasher(width).digest(*node)

    def test_an_end_with_another_key(self):
        hasher = Hasher(64)
        for depth in (0, 1, 2, 5, 31, 32):
            for key in (0, LAST, 0b1011 << 28, 77):
                for bit in range(32):
                    told = (depth, *[1, 9] * depth, key ^ (1 << (31 - bit)), 4)
                    root = self.made_root(64, key, told)
                    self.assertEqual(map_check(hasher, root, key, told), ("absent",) if bit >= depth else None)
                told = (depth, *[1, 9] * depth, key, 4)
                self.assertEqual(map_check(hasher, self.made_root(64, key, told), key, told), ("value", 4))

    def test_an_end_that_is_no_entry(self):
        for depth, key in itertools.product((0, 1, 3), (0, 5, LAST)):
            for number, value in ((key + 2 ** 32, 4), (key - 2 ** 32, 4), (key, -1), (key, -2 ** 70), (-1, 4)):
                told = (depth, *[1, 9] * depth, number, value)
                self.assertIsNone(map_check(Hasher(64), self.made_root(64, key, told), key, told))

    def test_numbers_that_are_none(self):
        for place, number in itertools.product((1, 3, 5), (-1, -2, -2 ** 70)):
            told = [3, 1, 9, 1, 9, 1, 9, 5, 4]
            told[place] = number
            self.assertIsNone(map_check(Hasher(64), self.made_root(64, 5, told), 5, told))
        for place, number in itertools.product((2, 4, 6), (-1, 2 ** 64, 2 ** 70)):
            told = [3, 1, 9, 1, 9, 1, 9, 5, 4]
            told[place] = number
            self.assertIsNone(map_check(Hasher(64), self.made_root(64, 5, told), 5, told))
        told = (1, 2 ** 90, 2 ** 64 - 1, 5, 4)
        self.assertEqual(map_check(Hasher(64), self.made_root(64, 5, told), 5, told), ("value", 4))

    def test_of_the_sums_nothing_is_asked(self):
        hasher = Hasher(64)
        for many in (0, 1, 5, 2 ** 70):
            told = (2, many, 9, 0, 3)
            root = digest(64, *plain.inputs(64, 5, told)[0])
            self.assertEqual(map_check(hasher, root, 5, told), ("absent",))
            self.assertEqual(map_check(hasher, root, 5, told), plain.shown(64, root, 5, told))

    def test_answers_by_the_rule_at_small_widths(self):
        chance = random.Random(6)
        answers = {}
        for _ in range(6000):
            width = chance.choice((4, 5))
            pairs = {chance.choice(KEYS): chance.randrange(9) for _ in range(chance.randrange(5))}
            key, top = chance.choice(KEYS), plain.root(width, pairs)
            told = list(plain.proof(width, pairs, key))
            for _ in range(chance.randrange(4)):
                told[chance.randrange(len(told))] = chance.choice((chance.randint(-1, 2 ** width), chance.choice(KEYS)))
            if chance.randrange(3) == 0:
                told = told[:chance.randrange(3)] + [chance.choice(KEYS), chance.randrange(9)]
            answer = map_check(Hasher(width), top, key, told)
            self.assertEqual(answer, plain.shown(width, top, key, told))
            word = "refused" if answer is None else answer[0]
            answers[word] = answers.get(word, 0) + 1
        self.assertEqual(sorted(answers), ["absent", "refused", "value"])

    def test_the_example(self):
        hasher = Hasher(64)
        pairs = {5: 50, 1 << 31: 60}
        self.assertEqual([
            map_proof(hasher, pairs, 7)[0], map_proof(hasher, pairs, 7)[-2:],
            map_check(hasher, map_root(hasher, pairs), 7, map_proof(hasher, pairs, 7))], [1, (5, 50), ("absent",)])
        self.assertEqual(
            map_changed(hasher, map_root(hasher, pairs), 5, None, map_proof(hasher, pairs, 5)),
            map_root(hasher, {1 << 31: 60}))


class Changes(unittest.TestCase):
    def check(self, width, pairs, key, value):
        hasher, behind = Hasher(width), dict(pairs)
        if value is None:
            behind.pop(key, None)
        else:
            behind[key] = value
        kept = dict(pairs)
        root, proof = map_root(hasher, pairs), map_proof(hasher, pairs, key)
        for told in (proof, list(proof)):
            found = map_changed(hasher, root, key, value, told)
            self.assertEqual(found, plain.root(width, behind), (width, pairs, key, value))
        self.assertEqual(pairs, kept)
        self.assertIsNone(map_changed(hasher, root ^ 1, key, value, proof))
        self.assertIsNone(map_changed(hasher, root, key, value, proof + (0,)))

    def test_the_end_is_empty_has_the_key_or_another_one(self):
        for pairs, key in (
                ({}, 5), ({5: 1}, 5), ({5: 1}, 4), ({5: 1}, LAST), ({5: 1, HALF: 2}, 5), ({5: 1, HALF: 2}, 6),
                ({5: 1, 6: 2}, LAST), ({5: 1, 6: 2}, 7), ({4: 1, 5: 2}, 4), ({4: 1, 5: 2}, 6), ({0: 1, LAST: 2}, 0)):
            for value in (None, 0, 1, 9, 2 ** 70):
                self.check(64, pairs, key, value)

    def test_what_is_left_moves_upwards(self):
        for pairs, key in (
                ({6: 1, 7: 2}, 6), ({6: 1, 7: 2}, 7), ({6: 1, 7: 2, LAST: 3}, 6), ({6: 1, 7: 2, LAST: 3}, LAST),
                ({6: 1, 7: 2, 2 ** 20: 3}, 7), ({0: 1, HALF: 2}, 0), ({0: 1, HALF: 2, HALF + 1: 3}, HALF + 1),
                ({0: 1, HALF: 2, HALF + 1: 3}, 0), ({0: 1, 1: 2, 2: 3, 3: 4}, 2)):
            self.check(64, pairs, key, None)

    def test_maps_of_all_sizes(self):
        chance = random.Random(7)
        for pairs in maps(chance, 2):
            for key in chance.sample(KEYS, 4) + list(pairs) + [key ^ 1 for key in pairs]:
                self.check(64, pairs, key, None)
                self.check(6, pairs, key, chance.choice((0, 3, 2 ** 70)))

    def test_setting_the_value_that_is_there(self):
        hasher = Hasher(64)
        for pairs in maps(random.Random(8), 1):
            root = map_root(hasher, pairs)
            for key, value in pairs.items():
                self.assertEqual(map_changed(hasher, root, key, value, map_proof(hasher, pairs, key)), root)

    def test_one_change_behind_the_other(self):
        chance, hasher = random.Random(9), Hasher(64)
        pairs, root = {}, map_root(hasher, {})
        for _ in range(300):
            key, value = chance.choice(KEYS), chance.choice((None, chance.randrange(50)))
            root = map_changed(hasher, root, key, value, map_proof(hasher, pairs, key))
            pairs.pop(key, None)
            if value is not None:
                pairs[key] = value
            self.assertEqual(root, map_root(hasher, pairs))

    def test_wrong_proofs_that_are_accepted(self):
        chance, tried = random.Random(10), 0
        for _ in range(8000):
            depth, key = chance.choice((0, 1, 2, 3, 3, 4, 2, 1, 32)), chance.choice(KEYS)
            told = [depth]
            for _ in range(depth):
                told += [chance.randrange(3), chance.randrange(16)]
            if chance.randrange(3):
                told += [chance.choice((key, key, key ^ 1, key ^ 2 ** 20)), chance.randrange(5)]
            row = plain.inputs(4, key, told)
            if row is not None:
                root, value = digest(4, *row[0]), chance.choice((None, None, 0, 7))
                self.assertEqual(map_changed(Hasher(4), root, key, value, told), plain.changed(4, key, value, told))
                tried += 1
        self.assertGreater(tried, 3000)

    def test_proofs_that_are_not_accepted(self):
        hasher, pairs = Hasher(64), {5: 1, 9: 2}
        root = map_root(hasher, pairs)
        for value in (None, 3):
            for key, told in ((5, map_proof(hasher, {}, 5)), (5, map_proof(hasher, {5: 1}, 5)), (5, ()), (5, (0,)),
                              (LAST, map_proof(hasher, pairs, 5)), (-1, map_proof(hasher, pairs, LAST)),
                              (2 ** 32 + 5, map_proof(hasher, pairs, 5))):
                self.assertIsNone(map_changed(hasher, root, key, value, told))
