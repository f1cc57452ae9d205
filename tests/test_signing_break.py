import itertools
import random
import unittest

from offing.hashing import Hasher, is_collision
from offing.signing import Signer, digits_of, signing_break, verify
from tests import reference


class Breaks(unittest.TestCase):
    """Compares each break with the rule, and counts what kinds of breaks came about."""

    def setUp(self):
        self.kinds = {}

    def check(self, signer, signed, message, told):
        kept = dict(signed)
        answer = signing_break(signer, signed, message, told)
        self.assertEqual(signed, kept)
        width = signer.hasher.width
        if not reference.valid(width, signer.public, message, told):
            self.assertIsNone(answer)
            return self.count("not valid")
        expected = reference.breaking(width, signer.secret, signer.levels, signed, message, told)
        self.assertEqual(answer, expected, (width, signer.secret, signer.levels, signed, message, told))
        if answer is None:
            self.assertEqual(signed[told[0]], message)
            return self.count("none")
        if answer[0] == "found":
            self.check_found(signer, answer)
            return self.count("found again" if told[0] in signed else "found first")
        self.assertIs(is_collision(signer.hasher, answer), True)
        return self.count(self.kind_of_collision(signer, answer, told))

    def check_found(self, signer, answer):
        _, index, chain, step, word = answer
        self.assertEqual(signer.word(index, chain, step), word)

    def kind_of_collision(self, signer, answer, told):
        tag, numbers = answer[1]
        if tag == 4:
            index, chain, step, word = numbers
            self.assertEqual(signer.word(index, chain, step), word)
            self.assertEqual(answer[2][1][:3], (index, chain, step))
            self.assertEqual(index, told[0])
            return "chains"
        if tag == 5:
            ends = [signer.word(told[0], chain, 15) for chain in range(len(numbers) - 1)]
            self.assertEqual(numbers, (told[0], *ends))
            return "key"
        if len(numbers) == 2:
            self.assertEqual(numbers[0], signer.levels)
            return "top" if answer[2][1][0] == signer.levels else "other levels"
        return "node %d" % numbers[0]

    def count(self, kind):
        self.kinds[kind] = self.kinds.get(kind, 0) + 1

    def assert_kinds(self, *kinds):
        self.assertEqual([kind for kind in kinds if kind not in self.kinds], [], self.kinds)

    def test_all_signatures_by_the_only_key(self):
        for secret in (1, 2):
            signer = Signer(Hasher(4), secret, 0)
            for message in (0, 6, 15):
                for told in itertools.product((0,), range(16), range(16)):
                    for signed in ({}, {0: message}, {0: 3}, {0: 15}, {1: message}):
                        self.check(signer, signed, message, told)
        self.assert_kinds("not valid", "none", "found again", "found first", "top", "key", "chains")

    def test_signatures_by_one_of_some_keys(self):
        chance = random.Random(6)
        signer = Signer(Hasher(5), 4, 2)
        for _ in range(4000):
            message, index = chance.randrange(32), chance.randrange(4)
            told = list(signer.sign(index, message))
            for _ in range(chance.choice((0, 1, 1, 2))):
                told[chance.randrange(1, len(told))] = chance.randrange(32)
            signed = {index: chance.choice((message, chance.randrange(32))), 9: 1}
            if chance.randrange(3) == 0:
                del signed[index]
            self.check(signer, signed, message, tuple(told))
        self.assert_kinds(
            "not valid", "none", "found again", "found first", "top", "node 0", "node 1", "key", "chains")

    def test_signatures_of_other_levels(self):
        chance = random.Random(7)
        for levels, other in ((0, 1), (1, 0), (1, 2), (2, 0), (2, 1), (1, 3), (0, 6), (1, 7)):
            self.kinds = {}
            for secret in range(10):
                signer = Signer(Hasher(4), secret, levels)
                for _ in range(50):
                    numbers = [chance.randrange(16) for _ in range(2 + other)]
                    self.check(signer, {0: 3}, chance.randrange(16), (chance.randrange(2 ** other), *numbers))
            self.assert_kinds(*(("not valid", "other levels") if other < 7 else ("not valid",)))
            self.assertEqual([kind for kind in self.kinds if kind not in ("not valid", "other levels")], [])

    def test_an_index_that_only_the_signature_has(self):
        for secret, index in itertools.product(range(5), (2, 3)):
            signer = Signer(Hasher(4), secret, 1)
            for told in itertools.product((index,), (1,), (3,), range(16), range(16)):
                self.check(signer, {}, 7, told)
        self.assert_kinds("other levels")

    def test_chains_that_come_together_at_some_step(self):
        steps = {}
        for secret in range(100):
            signer = Signer(Hasher(4), secret, 0)
            first, second = signer.sign(0, 0)[1:]
            for word in range(16):
                if word != first and verify(signer.hasher, signer.public, 0, (0, word, second)):
                    self.check(signer, {0: 0}, 0, (0, word, second))
                    answer = signing_break(signer, {0: 0}, 0, (0, word, second))
                    steps[answer[1][1][2]] = True
        self.assertGreater(len(steps), 4)

    def test_the_message_that_was_signed_is_no_break(self):
        for width, levels in ((4, 0), (13, 1), (64, 2)):
            signer = Signer(Hasher(width), 3, levels)
            index = 2 ** levels - 1
            for message in (0, 1, 2 ** width - 1):
                signature = signer.sign(index, message)
                self.assertIsNone(signing_break(signer, {index: message}, message, signature))

    def test_a_found_word_of_a_key_that_has_signed_another_message(self):
        signer = Signer(Hasher(12), 99, 1)
        signature = signer.sign(1, 0x321)
        cases = {0x421: 2, 0x322: 0, 0x221: 3, 0x332: 0, 0x131: 1, 0x330: 1, 0x311: 3, 0x320: 3}
        for other, chain in cases.items():
            step = digits_of(12, 0x321)[chain]
            expected = ("found", 1, chain, step, signature[1 + chain])
            self.assertEqual(signing_break(signer, {1: other, 0: 0x321}, 0x321, signature), expected)
            self.assertLess(step, digits_of(12, other)[chain])

    def test_a_found_word_of_a_key_that_has_signed_none(self):
        signer = Signer(Hasher(16), 8, 2)
        for index in range(4):
            for message in (0, 15, 2 ** 16 - 1):
                signature = signer.sign(index, message)
                expected = ("found", index, 0, message % 16, signature[1])
                for signed in ({}, {(index + 1) % 4: message}):
                    self.assertEqual(signing_break(signer, signed, message, signature), expected)

    def test_what_is_not_valid(self):
        signer = Signer(Hasher(64), 8, 1)
        signature = signer.sign(1, 70)
        bad = [(), (1,), signature[:-1], signature + (0,), (0,) + signature[1:], (3,) + signature[1:],
               (-1,) + signature[1:], signature[:-1] + (-1,), signature[:-1] + (2 ** 64,),
               (1, signature[1] ^ 1) + signature[2:], Signer(Hasher(64), 9, 1).sign(1, 70)]
        for told in bad:
            for signed in ({}, {1: 70}, {1: 71}):
                self.assertIsNone(signing_break(signer, signed, 70, told))
        self.assertIsNone(signing_break(signer, {}, 71, signature))
