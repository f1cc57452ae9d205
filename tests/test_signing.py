import itertools
import random
import unittest

from offing.hashing import Hasher
from offing.signing import Signer, digits_of, signing_break, verify
from tests import reference

WIDTHS = (4, 5, 6, 7, 8, 9, 12, 13, 16, 31, 33, 64, 65, 100, 127, 128)


def messages_of(width, chance, many=3):
    """The least and the greatest message, and some between."""
    return [0, 1, 2 ** width - 2, 2 ** width - 1] + [chance.getrandbits(width) for _ in range(many)]


class Digits(unittest.TestCase):
    def test_the_least_and_the_greatest_message(self):
        known = [
            (4, 0, [0, 15]), (4, 15, [15, 0]), (5, 0, [0, 0, 14, 1]), (5, 31, [15, 1, 14, 0]),
            (8, 0, [0, 0, 14, 1]), (8, 255, [15, 15, 0, 0]), (9, 511, [15, 15, 1, 14, 0]),
            (64, 0, [0] * 16 + [0, 15]), (64, 2 ** 64 - 1, [15] * 16 + [0, 0]),
            (65, 0, [0] * 17 + [15, 15]), (65, 2 ** 65 - 1, [15] * 16 + [1, 14, 0]),
            (68, 2 ** 68 - 1, [15] * 17 + [0, 0]), (69, 0, [0] * 18 + [14, 0, 1]),
            (128, 0, [0] * 32 + [0, 14, 1]), (128, 2 ** 128 - 1, [15] * 32 + [0, 0, 0])]
        for width, message, digits in known:
            self.assertEqual(digits_of(width, message), digits, (width, message))

    def test_digits_of_messages_by_the_rule(self):
        chance = random.Random(2)
        for width in range(4, 129):
            for message in messages_of(width, chance):
                self.assertEqual(digits_of(width, message), reference.digits(width, message))

    def test_all_messages_of_small_widths(self):
        for width in (4, 5, 6, 7, 8):
            for message in range(2 ** width):
                self.assertEqual(digits_of(width, message), reference.digits(width, message))

    def test_the_list_is_new(self):
        digits = digits_of(8, 5)
        digits.append(99)
        self.assertEqual(digits_of(8, 5), [5, 0, 9, 1])

    def assert_each_has_a_lesser_digit(self, width, one, other):
        pairs = list(zip(digits_of(width, one), digits_of(width, other)))
        self.assertTrue(any(mine < theirs for mine, theirs in pairs), (width, one, other))
        self.assertTrue(any(mine > theirs for mine, theirs in pairs), (width, one, other))

    def test_of_two_messages_each_has_a_lesser_digit(self):
        for width in (4, 5, 6, 8):
            for one, other in itertools.combinations(range(2 ** width), 2):
                self.assert_each_has_a_lesser_digit(width, one, other)

    def test_of_two_long_messages_each_has_a_lesser_digit(self):
        chance = random.Random(3)
        for width in WIDTHS:
            for one in messages_of(width, chance):
                for other in [one ^ 1, one ^ (1 << (width - 1)), *messages_of(width, chance)]:
                    if one != other:
                        self.assert_each_has_a_lesser_digit(width, one, other)


class Keys(unittest.TestCase):
    def test_the_attributes(self):
        hasher = Hasher(12)
        signer = Signer(hasher, 99, 1)
        self.assertIs(signer.hasher, hasher)
        self.assertEqual((signer.secret, signer.levels), (99, 1))
        self.assertTrue(hasher.is_digest(signer.public))

    def test_words(self):
        for width, secret, index in ((4, 0, 0), (5, 7, 3), (12, 2 ** 70, 1), (64, 99, 2), (128, 1, 0)):
            signer = Signer(Hasher(width), secret, 2)
            for chain, words in enumerate(reference.secret_words(width, secret, index)):
                self.assertEqual([signer.word(index, chain, step) for step in range(16)], [
                    words[step] for step in range(16)])

    def test_public_keys_of_all_levels(self):
        for width, secret in ((4, 3), (12, 99), (64, 2 ** 64), (65, 0)):
            for levels in range(7):
                signer = Signer(Hasher(width), secret, levels)
                self.assertEqual(signer.public, reference.public(width, secret, levels))

    def test_public_keys_of_other_widths(self):
        for width in WIDTHS:
            for secret in (0, 1, 2 ** 32):
                self.assertEqual(Signer(Hasher(width), secret, 1).public, reference.public(width, secret, 1))

    def test_signatures_by_all_keys(self):
        chance = random.Random(4)
        for width, levels in ((4, 0), (5, 1), (9, 2), (16, 3), (64, 2)):
            signer = Signer(Hasher(width), 8, levels)
            for index in range(2 ** levels):
                for message in messages_of(width, chance, 1):
                    signature = signer.sign(index, message)
                    self.assertIs(type(signature), tuple)
                    self.assertEqual(signature, reference.signature(width, 8, levels, index, message))

    def test_signatures_of_all_levels(self):
        for levels in range(7):
            signer = Signer(Hasher(16), 5, levels)
            for index in {0, 2 ** levels // 2, 2 ** levels - 1}:
                signature = signer.sign(index, 1234)
                self.assertEqual(signature, reference.signature(16, 5, levels, index, 1234))
                self.assertEqual(len(signature), 1 + 6 + levels)

    def test_a_signer_stays_as_it_is(self):
        signer = Signer(Hasher(16), 5, 2)
        public, first = signer.public, signer.sign(1, 77)
        signer.sign(3, 78)
        signer.word(2, 0, 15)
        self.assertEqual((signer.public, signer.sign(1, 77)), (public, first))
        self.assertEqual((signer.secret, signer.levels), (5, 2))

    def test_beyond_the_keys_no_error_is_raised(self):
        signer = Signer(Hasher(16), 5, 1)
        for index in (-1, 2, 3, 9):
            self.assertIs(verify(signer.hasher, signer.public, 7, signer.sign(index, 7)), False)
        signer.word(0, 99, 16)
        self.assertIs(verify(signer.hasher, signer.public, 7, Signer(Hasher(16), 5, 7).sign(0, 7)), False)


class Verify(unittest.TestCase):
    def setUp(self):
        self.hasher = Hasher(64)
        self.signer = Signer(self.hasher, 11, 2)
        self.message = 2 ** 63 + 12345
        self.signature = self.signer.sign(2, self.message)

    def answer(self, signature):
        return verify(self.hasher, self.signer.public, self.message, signature)

    def test_each_signature_of_a_signer_is_valid(self):
        chance = random.Random(5)
        for width, levels in ((4, 0), (4, 3), (7, 1), (13, 2), (64, 3), (128, 1), (16, 6)):
            signer = Signer(Hasher(width), 21, levels)
            for index in range(2 ** levels):
                for message in messages_of(width, chance, 1):
                    signature = signer.sign(index, message)
                    self.assertIs(verify(Hasher(width), signer.public, message, signature), True)

    def test_another_message(self):
        for message in (0, self.message - 1, self.message + 1, 2 ** 64 - 1):
            self.assertIs(verify(self.hasher, self.signer.public, message, self.signature), False)

    def test_what_is_no_message(self):
        signer = Signer(Hasher(6), 4, 1)
        signature = signer.sign(1, 5)
        for message in (5 + 2 ** 6, 5 + 2 ** 8, 5 - 2 ** 8, -1):
            self.assertIs(verify(Hasher(6), signer.public, message, signature), False)
        self.assertIs(verify(Hasher(6), signer.public, 5, signature), True)

    def test_another_public_key(self):
        other = Signer(self.hasher, 12, 2).public
        for public in (0, -1, self.signer.public + 1, self.signer.public + 2 ** 64, other):
            self.assertIs(verify(self.hasher, public, self.message, self.signature), False)

    def test_another_width(self):
        self.assertIs(verify(Hasher(63), self.signer.public, self.message, self.signature), False)

    def test_a_changed_number(self):
        self.assertIs(self.answer(self.signature), True)
        for place, number in enumerate(self.signature):
            for other in (number + 1, number ^ 2, -number - 1, -1, 2 ** 64, number + 2 ** 64, number - 2 ** 64):
                changed = self.signature[:place] + (other,) + self.signature[place + 1:]
                self.assertIs(self.answer(changed), False, (place, other))

    def test_a_signature_cut_or_made_longer(self):
        for many in range(len(self.signature)):
            self.assertIs(self.answer(self.signature[:many]), False)
            self.assertIs(self.answer(self.signature[many + 1:]), False)
        for more in range(1, 12):
            self.assertIs(self.answer(self.signature + (0,) * more), False)
            self.assertIs(self.answer((2,) * more + self.signature), False)

    def test_an_index_beyond_the_keys(self):
        for index in (-2, -1, 4, 6, 2 ** 64, 10 ** 30):
            self.assertIs(self.answer((index,) + self.signature[1:]), False)

    def test_the_empty_tuple(self):
        for width in WIDTHS:
            self.assertIs(verify(Hasher(width), 0, 0, ()), False)

    def test_more_levels_than_there_may_be(self):
        for levels in (6, 7, 8):
            public = reference.public(8, 3, levels)
            signature = reference.signature(8, 3, levels, 5, 200)
            self.assertIs(verify(Hasher(8), public, 200, signature), levels == 6)

    def test_all_signatures_of_a_small_width(self):
        valid = 0
        for message in (0, 9, 15):
            for told in itertools.product(range(-1, 3), range(-1, 17), range(-1, 17), range(0, 16, 5)):
                expected = reference.valid(4, 6, message, told)
                self.assertIs(verify(Hasher(4), 6, message, told), expected, (message, told))
                valid += expected
        self.assertGreater(valid, 20)

    def test_an_index_or_a_number_beyond_that_makes_the_same_public_key(self):
        tried = 0
        for told in itertools.product((2, 3, -1, -2), range(16), range(16), range(16)):
            if Hasher(4).digest(*reference.inputs(4, 9, told)[-1]) == 6:
                self.assertIs(verify(Hasher(4), 6, 9, told), False)
                tried += 1
        for told in itertools.product((0, 1), range(16, 24), range(16), range(16)):
            for one in (told, (told[0], told[2], told[1], told[3]), (told[0], told[2], told[3], told[1])):
                if Hasher(4).digest(*reference.inputs(4, 9, one)[-1]) == 6:
                    self.assertIs(verify(Hasher(4), 6, 9, one), False)
                    tried += 1
        self.assertGreater(tried, 100)

    def test_the_example(self):
        hasher = Hasher(12)
        signer = Signer(hasher, 99, 1)
        signature = signer.sign(1, 291)
        self.assertEqual([
            digits_of(12, 291), len(signature), verify(hasher, signer.public, 291, signature),
            signing_break(signer, {}, 291, signature)[:4]], [[3, 2, 1, 7, 2], 7, True, ("found", 1, 0, 3)])
