import itertools
import random
import unittest

from offing.hashing import Hasher
from offing.lists import growth_check, growth_proof, list_check, list_proof, list_root
from tests import reference_lists as plain
from tests.reference import EDGES, digest

HUGE = 2 ** 3000 + 12345
SIZES = range(21)


def items_of(many, seed=0):
    chance = random.Random(many + 100 * seed)
    return [chance.choice((chance.randrange(9), chance.choice(EDGES))) for _ in range(many)]


def different_items(many):
    return [1000 + many + k for k in range(many)]


class Roots(unittest.TestCase):
    def test_roots_worked_out_from_digests(self):
        for width in (4, 64, 128):
            hasher = Hasher(width)
            a, b, c, d, e = [digest(width, 0, [item]) for item in (7, 2 ** 70, 0, 7, 9)]
            ab = digest(width, 1, [2, a, b])
            cd = digest(width, 1, [2, c, d])
            abcd = digest(width, 1, [4, ab, cd])
            items = [7, 2 ** 70, 0, 7, 9]
            expected = [digest(width, 0, []), a, ab, digest(width, 1, [3, ab, c]), abcd, digest(width, 1, [5, abcd, e])]
            for many, root in enumerate(expected):
                self.assertEqual(list_root(hasher, items[:many]), root)
                self.assertEqual(list_root(hasher, tuple(items[:many])), root)

    def test_roots_of_all_sizes(self):
        for many in list(SIZES) + [31, 32, 33, 64, 65, 100]:
            for width in (5, 64):
                items = items_of(many)
                kept = list(items)
                self.assertEqual(list_root(Hasher(width), items), plain.root(width, items))
                self.assertEqual(items, kept)

    def test_a_list_of_one_item_is_not_the_item(self):
        hasher = Hasher(64)
        inner = list_root(hasher, [1, 2])
        self.assertNotEqual(list_root(hasher, [inner, 3]), list_root(hasher, [1, 2, 3]))


class Proofs(unittest.TestCase):
    def test_proofs_worked_out_from_digests(self):
        a, b, c = [digest(64, 0, [item]) for item in (7, 8, 9)]
        ab = digest(64, 1, [2, a, b])
        expected = [(b, c), (a, c), (ab,)]
        self.assertEqual([list_proof(Hasher(64), [7, 8, 9], k) for k in range(3)], expected)
        self.assertEqual(list_proof(Hasher(64), [7], 0), ())

    def test_true_proofs(self):
        for width, many in itertools.product((4, 64), SIZES):
            hasher, items = Hasher(width), items_of(many)
            kept, root = list(items), list_root(hasher, items)
            for k in range(many):
                proof = list_proof(hasher, items, k)
                self.assertIs(type(proof), tuple)
                self.assertEqual(proof, plain.proof(width, items, k))
                self.assertIs(list_check(hasher, root, many, k, items[k], proof), True)
                self.assertIs(list_check(hasher, root, many, k, items[k], list(proof)), True)
            self.assertEqual(items, kept)

    def test_another_item_number_or_index_or_root(self):
        hasher = Hasher(64)
        for many in SIZES:
            items = different_items(many)
            root = list_root(hasher, items)
            for k in range(many):
                proof = list_proof(hasher, items, k)
                for count, at, item in itertools.product(
                        (many - 1, many, many + 1, 2 * many, 0, -many), (k - 1, k, k + 1, -1, many, k - many),
                        (items[k], items[k] + 1, items[k - 1])):
                    expected = plain.accepted(64, root, count, at, item, proof)
                    self.assertIs(list_check(hasher, root, count, at, item, proof), expected)
                    if at != k or item != items[k]:
                        self.assertIs(expected, False)
                for other in (root + 1, root ^ 1, -1, root + 2 ** 64, -root, proof[0] if proof else 0):
                    self.assertIs(list_check(hasher, other, many, k, items[k], proof), False)

    def test_an_index_beyond_the_list(self):
        for width in (4, 5, 64):
            hasher = Hasher(width)
            for many in range(9):
                items = items_of(many)
                root = list_root(hasher, items)
                for k in (-1, -2, -many, -many - 1, many, many + 1, 2 * many, HUGE, -HUGE):
                    for own in range(many):
                        proof = list_proof(hasher, items, own)
                        if k < 0 or k >= many:
                            self.assertIs(list_check(hasher, root, many, k, items[own], proof), False)
                self.assertIs(list_check(hasher, list_root(hasher, []), 0, 0, 0, ()), False)

    def test_proofs_cut_longer_or_changed(self):
        hasher = Hasher(64)
        for many in range(1, 21):
            items = different_items(many)
            root = list_root(hasher, items)
            for k in range(many):
                proof = list_proof(hasher, items, k)
                bad = [proof[:cut] for cut in range(len(proof))] + [proof[cut:] for cut in range(1, len(proof))]
                bad += [proof + (0,), proof + (root,), (items[k],) + proof, proof + proof + (1,)]
                bad += [proof[:at] + proof[at + 1:] for at in range(len(proof))]
                for at, number in enumerate(proof):
                    changes = (number + 1, number ^ 1, -number, -1, number + 2 ** 64, number - 2 ** 64, HUGE)
                    bad += [proof[:at] + (other,) + proof[at + 1:] for other in changes]
                for told in bad:
                    self.assertIs(list_check(hasher, root, many, k, items[k], told), False, (many, k, told))

    def test_answers_by_the_rule_at_small_widths(self):
        chance = random.Random(5)
        answers = {True: 0, False: 0}
        for _ in range(20000):
            width = chance.choice((4, 5))
            items = [chance.randrange(20) for _ in range(chance.randrange(9))]
            hasher = Hasher(width)
            root = list_root(hasher, items)
            k = chance.randint(-1, len(items))
            count = chance.choice((len(items), len(items), chance.randint(-1, 10)))
            told = list(list_proof(hasher, items, chance.randrange(len(items)))) if items else []
            for _ in range(chance.randrange(3)):
                if told:
                    told[chance.randrange(len(told))] = chance.randint(-1, 2 ** width + 1)
            told = told[chance.choice((0, 0, 0, 1)):]
            item = chance.choice((items[k] if 0 <= k < len(items) else 3, chance.randint(-3, 20)))
            expected = plain.accepted(width, root, count, k, item, told)
            self.assertIs(list_check(hasher, root, count, k, item, told), expected)
            answers[expected] += 1
        self.assertGreater(min(answers.values()), 500)

    def test_numbers_that_are_no_digests_but_make_the_root(self):
        hasher, items, tried = Hasher(4), [1, 2, 3], 0
        root = list_root(hasher, items)
        one, three = hasher.digest(0, [1]), hasher.digest(0, [3])
        for number in list(range(16, 400)) + list(range(-400, 0)):
            if hasher.digest(1, [3, hasher.digest(1, [2, one, number]), three]) == root:
                self.assertIs(list_check(hasher, root, 3, 0, 1, (number, three)), False)
                tried += 1
            if hasher.digest(1, [3, number, three]) == root:
                self.assertIs(list_check(hasher, root, 3, 2, 3, (number,)), False)
                tried += 1
        self.assertGreater(tried, 50)

    def test_a_negative_number_is_no_item(self):
        hasher = Hasher(64)
        items = [2 ** 32 - 1, 2 ** 64 - 1, 2 ** 32 - 2]
        root = list_root(hasher, items)
        for k, item in ((0, -1), (1, -1), (2, -2), (0, 2 ** 32 - 1 - 2 ** 64)):
            self.assertIs(list_check(hasher, root, 3, k, item, list_proof(hasher, items, k)), False)
        for width in (4, 5):
            for item in range(-200, 0):
                self.assertIs(list_check(Hasher(width), list_root(Hasher(width), [5]), 1, 0, item, ()), False)

    def test_numbers_of_items_far_too_great(self):
        hasher = Hasher(64)
        items = different_items(5)
        root = list_root(hasher, items)
        proof = list_proof(hasher, items, 3)
        for count in (HUGE, 2 ** 100000, 10 ** 30, -HUGE):
            for k in (3, 0, HUGE - 1, 2 ** 2999, count - 1):
                for told in (proof, (), (1,) * 5000):
                    self.assertIs(list_check(hasher, root, count, k, items[3], told), False)

    def test_beyond_the_list_no_error_is_raised(self):
        for many in range(5):
            for k in (-3, -1, many, many + 3):
                self.assertIs(type(list_proof(Hasher(16), items_of(many), k)), tuple)


class Growth(unittest.TestCase):
    def test_proofs_worked_out_from_digests(self):
        hasher, items = Hasher(64), [1, 2, 3, 4, 5]
        one, two, three, four, five = [digest(64, 0, [item]) for item in items]
        low, high = digest(64, 1, [2, one, two]), digest(64, 1, [2, three, four])
        four_items = digest(64, 1, [4, low, high])
        whole = digest(64, 1, [5, four_items, five])
        expected = [
            (whole,), (one, two, high, five), (low, high, five), (low, three, four, five), (four_items, five), (whole,)]
        self.assertEqual([growth_proof(hasher, items, old) for old in range(6)], expected)
        self.assertEqual(growth_proof(hasher, [], 0), ())

    def test_true_proofs(self):
        for width, many in itertools.product((4, 64), SIZES):
            hasher, items = Hasher(width), items_of(many)
            kept, root = list(items), list_root(hasher, items)
            for old in range(many + 1):
                proof = growth_proof(hasher, items, old)
                self.assertIs(type(proof), tuple)
                self.assertEqual(proof, plain.growth(width, items, old))
                old_root = list_root(hasher, items[:old])
                self.assertIs(growth_check(hasher, old_root, old, root, many, proof), True)
                self.assertIs(growth_check(hasher, old_root, old, root, many, list(proof)), True)
            self.assertEqual(items, kept)

    def test_longer_lists(self):
        hasher, items = Hasher(32), different_items(70)
        root = list_root(hasher, items)
        for old in (1, 31, 32, 33, 63, 64, 65, 69):
            proof = growth_proof(hasher, items, old)
            self.assertEqual(proof, plain.growth(32, items, old))
            self.assertIs(growth_check(hasher, list_root(hasher, items[:old]), old, root, 70, proof), True)

    def test_other_numbers_of_items(self):
        hasher = Hasher(64)
        for many in range(12):
            items = different_items(many)
            root = list_root(hasher, items)
            for old in range(many + 1):
                proof, old_root = growth_proof(hasher, items, old), list_root(hasher, items[:old])
                for other, count in itertools.product(
                        (old, old - 1, old + 1, -1, many + 1, -old, 2 * many), (many, many - 1, many + 1, -1, 0, old)):
                    answer = growth_check(hasher, old_root, other, root, count, proof)
                    self.assertIs(answer, plain.growth_accepted(64, old_root, other, root, count, proof))
                    if other != old and old != many:
                        self.assertIs(answer, False)

    def test_more_old_items_than_all(self):
        for width in (4, 64):
            hasher = Hasher(width)
            for many in range(6):
                items = items_of(many)
                root = list_root(hasher, items)
                for old in (many + 1, many + 2, 2 * many + 1, HUGE, -1, -2, -HUGE):
                    for told in ((root,), (), growth_proof(hasher, items, many // 2)):
                        self.assertIs(growth_check(hasher, root, old, root, many, told), False)
                    self.assertIs(growth_check(hasher, list_root(hasher, []), old, root, many, (root,)), False)

    def test_other_roots(self):
        hasher = Hasher(64)
        for many in range(12):
            items = different_items(many)
            root = list_root(hasher, items)
            for old in range(many + 1):
                proof, old_root = growth_proof(hasher, items, old), list_root(hasher, items[:old])
                for other in (old_root + 1, old_root ^ 1, -1, old_root + 2 ** 64, list_root(hasher, items[:old - 1])):
                    if other != old_root:
                        self.assertIs(growth_check(hasher, other, old, root, many, proof), False)
                for other in (root + 1, root ^ 1, -1, root + 2 ** 64, -root):
                    self.assertIs(growth_check(hasher, old_root, old, other, many, proof), False)

    def test_proofs_cut_longer_or_changed(self):
        hasher = Hasher(64)
        for many in range(14):
            items = different_items(many)
            root = list_root(hasher, items)
            for old in range(many + 1):
                proof, old_root = growth_proof(hasher, items, old), list_root(hasher, items[:old])
                bad = [proof[:cut] for cut in range(len(proof))] + [proof[cut:] for cut in range(1, len(proof))]
                bad += [proof + (0,), (0,) + proof, proof + (root,), proof[:1] + proof + proof[1:] + (3,)]
                for at, number in enumerate(proof):
                    changes = (number + 1, number ^ 1, -number, -1, number + 2 ** 64, number - 2 ** 64, HUGE)
                    bad += [proof[:at] + (other,) + proof[at + 1:] for other in changes]
                    bad.append(proof[:at] + proof[at + 1:])
                for told in bad:
                    self.assertIs(growth_check(hasher, old_root, old, root, many, told), False, (many, old, told))

    def test_the_empty_list(self):
        hasher = Hasher(64)
        empty = list_root(hasher, [])
        self.assertIs(growth_check(hasher, empty, 0, empty, 0, ()), True)
        self.assertIs(growth_check(hasher, empty, 0, empty, 0, []), True)
        for told in ((empty,), (0,), (empty, empty)):
            self.assertIs(growth_check(hasher, empty, 0, empty, 0, told), False)
        self.assertIs(growth_check(hasher, empty ^ 1, 0, empty, 0, ()), False)
        self.assertIs(growth_check(hasher, empty, 0, empty ^ 1, 0, ()), False)
        self.assertIs(growth_check(hasher, empty ^ 1, 0, empty ^ 1, 0, ()), False)
        self.assertIs(growth_check(hasher, empty, 0, empty, 1, ()), False)

    def test_answers_by_the_rule_at_small_widths(self):
        chance = random.Random(8)
        answers = {True: 0, False: 0}
        for _ in range(30000):
            width = chance.choice((4, 5))
            items = [chance.randrange(20) for _ in range(chance.randrange(10))]
            hasher = Hasher(width)
            root = list_root(hasher, items)
            old = chance.randint(0, len(items))
            told = list(growth_proof(hasher, items, old))
            old_root = list_root(hasher, items[:old])
            for _ in range(chance.randrange(3)):
                if told:
                    told[chance.randrange(len(told))] = chance.randint(-1, 2 ** width)
            if chance.randrange(3) == 0:
                old_root = chance.randint(-1, 2 ** width)
            old = chance.choice((old, old, old, chance.randint(-1, 10)))
            count = chance.choice((len(items), len(items), len(items), chance.randint(-1, 10)))
            expected = plain.growth_accepted(width, old_root, old, root, count, told)
            self.assertIs(growth_check(hasher, old_root, old, root, count, told), expected)
            answers[expected] += 1
        self.assertGreater(min(answers.values()), 1000)

    def test_numbers_that_are_no_digests_but_make_the_roots(self):
        hasher, items, tried = Hasher(4), [1, 2], 0
        root = list_root(hasher, items)
        for number in list(range(16, 400)) + list(range(-400, 0)):
            if hasher.digest(1, [2, hasher.digest(0, [1]), number]) == root:
                told = (hasher.digest(0, [1]), number)
                self.assertIs(growth_check(hasher, hasher.digest(0, [1]), 1, root, 2, told), False)
                tried += 1
            self.assertIs(growth_check(hasher, number, 2, number, 2, (number,)), False)
        self.assertGreater(tried, 20)

    def test_numbers_of_items_far_too_great(self):
        hasher = Hasher(64)
        items = different_items(5)
        root, proof = list_root(hasher, items), growth_proof(hasher, items, 3)
        for count in (HUGE, 2 ** 100000, 10 ** 30):
            for old in (3, 0, count - 1, count // 3, count):
                for told in (proof, (), (1,) * 3000):
                    self.assertIs(growth_check(hasher, root, old, root, count, told), False)

    def test_beyond_the_list_no_error_is_raised(self):
        for many in range(5):
            for old in (-3, -1, many + 1, many + 3):
                self.assertIs(type(growth_proof(Hasher(16), items_of(many), old)), tuple)

    def test_the_example(self):
        hasher = Hasher(64)
        items = [7, 8, 9]
        root = list_root(hasher, items)
        self.assertEqual([
            len(list_proof(hasher, items, 0)), len(list_proof(hasher, items, 2)),
            list_check(hasher, root, 3, 2, 9, list_proof(hasher, items, 2))], [2, 1, True])
        self.assertEqual([
            len(growth_proof(hasher, items, 1)),
            growth_check(hasher, list_root(hasher, [7]), 1, root, 3, growth_proof(hasher, items, 1))], [3, True])
