import itertools
import random
import unittest

from offing.hashing import Hasher, collision, is_collision
from tests import reference

WIDTHS = (4, 5, 7, 8, 12, 16, 31, 32, 33, 63, 64, 65, 100, 127, 128)
ROWS = [
    [], [0], [0, 0], [1], [1, 2], [2, 1], [0, 1], [1, 0], [7] * 40,
    *[[edge] for edge in reference.EDGES],
    [2 ** 32 - 1, 2 ** 32, 2 ** 64, 0, 5],
    [3 ** 5000, 0, 2 ** 20000],
    list(range(300)),
]


def pair_of_one_digest(hasher, tag, other_tag):
    """Two different inputs of one number each, with these tags, that have one digest."""
    seen = {hasher.digest(tag, [number]): number for number in range(1000)}
    for number in itertools.count():
        first = seen.get(hasher.digest(other_tag, [number]))
        if first is not None and (tag, first) != (other_tag, number):
            return (tag, (first,)), (other_tag, (number,))


class Digests(unittest.TestCase):
    def test_digests_follow_the_rule(self):
        for width in WIDTHS:
            hasher = Hasher(width)
            self.assertEqual(hasher.width, width)
            for row in ROWS:
                for tag in (0, 4, 15):
                    expected = reference.digest(width, tag, row)
                    self.assertEqual(hasher.digest(tag, row), expected, (width, tag, row[:3]))

    def test_every_width_and_tag(self):
        for width in range(4, 129):
            for tag in range(16):
                expected = reference.digest(width, tag, [5, 2 ** 40])
                self.assertEqual(Hasher(width).digest(tag, [5, 2 ** 40]), expected)

    def test_numbers_by_chance(self):
        chance = random.Random(1)
        for _ in range(400):
            width = chance.randint(4, 128)
            tag = chance.randint(0, 15)
            row = [chance.getrandbits(chance.randint(1, 200)) for _ in range(chance.randint(0, 9))]
            self.assertEqual(Hasher(width).digest(tag, row), reference.digest(width, tag, row))

    def test_digests_that_were_worked_out_once(self):
        known = [(4, 0, [], 9), (64, 9, [1, 2 ** 32], 4154195566751530548), (128, 15, [2 ** 64], 46685789699961460085573961547726997926)]
        for width, tag, row, digest in known:
            self.assertEqual(Hasher(width).digest(tag, row), digest)

    def test_a_digest_is_within_its_width(self):
        for width in (4, 5, 13):
            hasher = Hasher(width)
            found = [hasher.digest(0, [number]) for number in range(2 ** width * 20)]
            self.assertEqual((min(found), max(found)), (0, 2 ** width - 1))

    def test_different_lists_have_different_digests(self):
        hasher = Hasher(128)
        rows = ROWS + [[0, 0, 0], [2 ** 32, 0], [0, 2 ** 32], [2 ** 64, 1], [1, 2 ** 64]]
        found = {hasher.digest(tag, row) for row in rows for tag in range(16)}
        self.assertEqual(len(found), 16 * len({tuple(row) for row in rows}))

    def test_lists_and_tuples_are_alike_and_stay(self):
        for width in (4, 64, 128):
            for row in ROWS:
                numbers = list(row)
                digest = Hasher(width).digest(3, numbers)
                self.assertEqual(numbers, row)
                self.assertEqual(Hasher(width).digest(3, tuple(row)), digest)

    def test_the_same_input_has_the_same_digest_again(self):
        hasher = Hasher(40)
        first = hasher.digest(1, [8, 9])
        hasher.digest(2, [1])
        self.assertEqual([hasher.digest(1, [8, 9]), Hasher(40).digest(1, [8, 9])], [first, first])

    def test_is_digest(self):
        for width in range(4, 129):
            hasher = Hasher(width)
            answers = [hasher.is_digest(number) for number in (
                -2 ** 200, -1, 0, 1, 2 ** width - 1, 2 ** width, 2 ** width + 1, 2 ** 200)]
            self.assertEqual(answers, [False, False, True, True, True, False, False, False])
            self.assertTrue(all(type(answer) is bool for answer in answers))

    def test_beyond_the_bounds_no_error_is_raised(self):
        for width in (0, 3, 129, 140):
            hasher = Hasher(width)
            hasher.is_digest(hasher.digest(16, [1]))
        Hasher(16).digest(-1, [-1, -2 ** 70])


class Collisions(unittest.TestCase):
    def test_a_collision_consists_of_tuples(self):
        expected = ("collision", (0, (1, 2)), (5, ()))
        for first in ((0, [1, 2]), (0, (1, 2))):
            for second in ((5, []), (5, ())):
                self.assertEqual(collision(first, second), expected)

    def test_the_arguments_stay(self):
        first, second = [1, 2], [3]
        answer = collision((0, first), (1, second))
        self.assertEqual((first, second), ([1, 2], [3]))
        first.append(4)
        self.assertEqual(answer, ("collision", (0, (1, 2)), (1, (3,))))

    def test_two_inputs_of_one_digest(self):
        for width in (4, 5, 8, 12, 16):
            for tags in ((0, 0), (3, 3), (0, 15), (15, 0), (4, 5)):
                hasher = Hasher(width)
                first, second = pair_of_one_digest(hasher, *tags)
                self.assertNotEqual(first, second)
                self.assertEqual(reference.digest(width, *first), reference.digest(width, *second))
                self.assertIs(is_collision(hasher, collision(first, second)), True)
                self.assertIs(is_collision(hasher, ("collision", second, first)), True)

    def test_the_hasher_matters(self):
        first, second = pair_of_one_digest(Hasher(8), 0, 0)
        self.assertIs(is_collision(Hasher(64), ("collision", first, second)), False)

    def test_equal_inputs(self):
        for width in (4, 128):
            for numbers in ((), (0,), (1, 2), (2 ** 64,)):
                pair = (7, numbers)
                self.assertIs(is_collision(Hasher(width), ("collision", pair, pair)), False)
                self.assertIs(is_collision(Hasher(width), collision(pair, (7, list(numbers)))), False)

    def test_different_digests(self):
        hasher = Hasher(16)
        for first, second in (((0, (1,)), (0, (2,))), ((0, (1,)), (1, (1,))), ((0, ()), (0, (0,)))):
            self.assertNotEqual(hasher.digest(*first), hasher.digest(*second))
            self.assertIs(is_collision(hasher, ("collision", first, second)), False)

    def test_other_answers(self):
        hasher = Hasher(4)
        first, second = pair_of_one_digest(hasher, 0, 0)
        answers = [None, ("found", 1, 0, 3, 9), ("culprits", 0, (5,), None), ("",), ("collisions", first, second)]
        self.assertEqual([is_collision(hasher, answer) for answer in answers], [False] * 5)

    def test_inputs_of_which_no_digest_is_made(self):
        hasher = Hasher(4)
        for bad_tag in (-1, -16, 16, 17, 400):
            for number in range(64):
                answer = ("collision", (0, (1,)), (bad_tag, (number,)))
                self.assertIs(is_collision(hasher, answer), False)
                self.assertIs(is_collision(hasher, ("collision", answer[2], answer[1])), False)
        for number in range(1, 64):
            for bad in ((0, (-number,)), (0, (3, -number)), (15, (-number, 3)), (0, (-number * 2 ** 40, 1, 1))):
                self.assertIs(is_collision(hasher, ("collision", (0, (1,)), bad)), False)
                self.assertIs(is_collision(hasher, ("collision", bad, (0, (1,)))), False)

    def test_a_negative_number_is_not_taken_for_its_limbs(self):
        for width in (4, 128):
            for number in (-1, -2 ** 31, -2 ** 32, -2 ** 64):
                for like in (number + 2 ** 32, number + 2 ** 64, number + 2 ** 96, -number):
                    answer = ("collision", (0, (like,)), (0, (number,)))
                    self.assertIs(is_collision(Hasher(width), answer), False)
        for number in range(200):
            self.assertIs(is_collision(Hasher(4), ("collision", (0, (-1,)), (0, (number,)))), False)

    def test_the_edges_of_tags(self):
        hasher = Hasher(4)
        for tag in (0, 15):
            first, second = pair_of_one_digest(hasher, tag, tag)
            self.assertIs(is_collision(hasher, ("collision", first, second)), True)

    def test_the_example(self):
        hasher = Hasher(16)
        self.assertEqual([
            hasher.digest(0, [1, 2]) == hasher.digest(0, (1, 2)), hasher.is_digest(65536),
            is_collision(hasher, collision((0, [1]), (0, [1])))], [True, False, False])
