import random
import unittest

from offing.hashing import Hasher, is_collision
from offing.maps import map_root
from offing.questions import answer_break, answer_of, plain_answer, proof_of
from tests import reference_maps as plain
from tests.reference import digest
from tests.reference_questions import ODD, answer, behind, breaking, proof, shown
from tests.test_questions import NO_QUESTIONS, QUESTIONS, some_map, some_question

LAST = 2 ** 32 - 1
HALF = 2 ** 31
SMALL = [0, 1, 5, HALF, HALF + 1, LAST]


def values_of_one_digest(width, entry, many):
    """Entries with the key of an entry and other values that have its digest."""
    wanted = digest(width, 2, list(entry))
    found = []
    for value in range(10 ** 5):
        if value != entry[1] and digest(width, 2, [entry[0], value]) == wanted:
            found.append((entry[0], value))
            if len(found) == many:
                return found
    raise AssertionError("too few")


class Breaks(unittest.TestCase):
    def check(self, width, pairs, question, told):
        """Compare a break with the rules; return what became of the proof."""
        hasher, kept = Hasher(width), dict(pairs)
        found = answer_break(hasher, pairs, question, told)
        self.assertEqual(pairs, kept)
        expected = breaking(width, pairs, question, told)
        self.assertEqual(found, expected, (width, pairs, question, told))
        seen = shown(width, plain.root(width, pairs), question, told)
        if found is not None:
            self.assertIs(is_collision(hasher, found), True)
            return "broken"
        if seen is None:
            return "refused"
        self.assertEqual(seen, answer(width, pairs, question))
        return "true" if told == proof(width, pairs, question) else "untrue, but of the same answer"

    def spoilt_key(self, chance, told):
        """A proof of a key whose first nodes stay, and those below them are told at random."""
        kept, more = min(told[0], chance.randrange(3)), chance.randrange(2)
        row = [kept + more, *told[1:1 + 2 * kept]]
        for _ in range(more):
            row += [chance.randrange(3), chance.randrange(17)]
        return tuple(row) + (chance.choice((told[-2:] if told[0] else (), (chance.choice(SMALL), chance.randrange(60)))))

    def spoilt(self, chance, told, question):
        if question[0] == "key":
            return self.spoilt_key(chance, told)
        if question[0] in ("keys", "behind"):
            at = chance.randrange(len(told))
            return told[:at] + (self.spoilt_key(chance, told[at]),) + told[at + 1:]
        row = list(told if question[0] == "range" else told[1])
        for _ in range(chance.randrange(1, 3)):
            at = chance.randrange(len(row))
            row[at] = chance.choice((chance.randrange(60), row[at] ^ 1))
        if question[0] == "range":
            return tuple(row)
        key = chance.choice([told[0]] * 3 + SMALL)
        return (key, tuple(row))

    def test_proofs_by_chance(self):
        chance, seen = random.Random(1), {}
        for _ in range(3500):
            width, pairs = chance.choice((4, 4, 5)), {chance.choice(SMALL): chance.randrange(9) for _ in range(3)}
            question = some_question(chance)
            if question[0] in ("range", "next"):
                question = (question[0], *sorted(chance.choices(SMALL, k=len(question) - 1)))
            told = proof(width, pairs, question)
            told = self.spoilt(chance, told, question) if chance.randrange(20) else told
            word = (question[0], self.check(width, pairs, question, told))
            seen[word] = seen.get(word, 0) + 1
        for word in ("key", "keys", "range", "next", "behind"):
            for kind in ("broken", "refused", "true"):
                self.assertIn((word, kind), seen)
        for word in ("keys", "behind"):
            self.assertIn((word, "untrue, but of the same answer"), seen)

    def test_the_first_proof_that_is_not_the_true_one(self):
        hasher, pairs = Hasher(8), {0: 1, HALF: 2, LAST: 3}
        others = {key: values_of_one_digest(8, (key, pairs[key]), 2) for key in pairs}
        keys = (0, HALF, LAST)
        for bits in range(8):
            question, told = ("keys", keys), list(proof(8, pairs, ("keys", keys)))
            wrong = [key for at, key in enumerate(keys) if bits >> at & 1]
            for at, key in enumerate(keys):
                if key in wrong:
                    told[at] = told[at][:-1] + others[key][0][1:]
            found = answer_break(hasher, pairs, question, tuple(told))
            expected = ("collision", (2, (wrong[0], pairs[wrong[0]])), (2, others[wrong[0]][0])) if wrong else None
            self.assertEqual(found, expected)
            self.check(8, pairs, question, tuple(told))

    def test_a_wrong_proof_of_the_same_answer_comes_before_another_one(self):
        # A key that is absent is told by a wrong end, another one has a wrong value.
        pairs, hasher = {0: 1, HALF: 2}, Hasher(8)
        absent, value = values_of_one_digest(8, (0, 1), 1)[0], values_of_one_digest(8, (HALF, 2), 1)[0]
        true = proof(8, pairs, ("keys", (1, HALF)))
        first, second = true[0][:-2] + absent, true[1][:-1] + value[1:]
        question = ("keys", (1, HALF))
        self.assertIsNone(answer_break(hasher, pairs, question, (first, true[1])))
        self.assertEqual(answer_of(hasher, map_root(hasher, pairs), question, (first, true[1])),
                         plain_answer(hasher, pairs, question))
        self.assertEqual(answer_break(hasher, pairs, question, (first, second)),
                         ("collision", (2, (0, 1)), (2, absent)))
        self.assertEqual(answer_break(hasher, pairs, question, (true[0], second)),
                         ("collision", (2, (HALF, 2)), (2, value)))

    def test_changes_behind_changes(self):
        # The entry of another key is told as one of the key that is taken away, behind a first change.
        hasher, pairs = Hasher(8), {0: 1, HALF: 2}
        for changes, own in ((((HALF, 7), (1, None)), (0, 1)), (((0, 3), (HALF + 1, None)), (HALF, 2)),
                             (((0, None), (HALF, None), (9, 4), (1, None)), (9, 4))):
            question = ("behind", changes)
            told, key = proof(8, pairs, question), changes[-1][0]
            self.assertEqual(told[-1][-2:], own)
            for value in range(3000):
                if digest(8, 2, [key, value]) == digest(8, 2, list(own)):
                    wrong = told[:-1] + (told[-1][:-2] + (key, value),)
                    self.assertEqual(self.check(8, pairs, question, wrong), "broken")
                    self.assertEqual(answer_break(hasher, pairs, question, wrong),
                                     ("collision", (2, own), (2, (key, value))))

    def test_the_next_entry(self):
        hasher, pairs = Hasher(8), {0: 1, HALF: 2}
        entry = values_of_one_digest(8, (HALF, 2), 1)[0]
        told = (HALF, proof(8, pairs, ("range", 5, HALF)))
        at = len(told[1]) - 1 - told[1][::-1].index(2)
        self.assertEqual(told[1][at - 1], HALF)
        wrong = (HALF, told[1][:at] + (entry[1],) + told[1][at + 1:])
        self.assertEqual(answer_break(hasher, pairs, ("next", 5), wrong), ("collision", (2, (HALF, 2)), (2, entry)))
        # An entry that is left out: it is told as another one, beyond the range or below it.
        tried = 0
        for key, value in ((key, value) for key in (HALF + 1, LAST) for value in range(2000)):
            if digest(8, 2, [key, value]) == digest(8, 2, [HALF, 2]):
                wrong = (key, (2, 1, 0, 1, 1, key, value))
                found = answer_of(hasher, map_root(hasher, pairs), ("next", 5), wrong)
                self.assertEqual(found, ("entry", key, value))
                self.assertEqual(answer_break(hasher, pairs, ("next", 5), wrong),
                                 ("collision", (2, (HALF, 2)), (2, (key, value))))
                tried += 1
        self.assertGreater(tried, 4)

    def test_no_entry_at_all(self):
        hasher = Hasher(6)
        for value in range(500):
            if digest(6, 2, [9, value]) == digest(6, 2, []):
                for question, told in (
                        (("key", 9), (0,)), (("keys", (9,)), ((0,),)), (("range", 0, 9), (0,)),
                        (("next", 3), (LAST, (0,)))):
                    self.assertEqual(answer_break(hasher, {9: value}, question, told),
                                     ("collision", (2, (9, value)), (2, ())))
                self.assertEqual(answer_break(hasher, {}, ("next", 3), (9, (1, 9, value))),
                                 ("collision", (2, ()), (2, (9, value))))

    def test_true_refused_and_odd_proofs(self):
        chance = random.Random(2)
        for _ in range(150):
            pairs, question = some_map(chance), some_question(chance)
            hasher = Hasher(64)
            told = proof_of(hasher, pairs, question)
            for value in (told, told[:-1], told + (0,), (), told[::-1], *ODD):
                self.assertIsNone(answer_break(hasher, pairs, question, value))
        for question in QUESTIONS:
            self.assertIsNone(answer_break(Hasher(64), {}, question, proof_of(Hasher(64), {}, question)))
        for value in NO_QUESTIONS:
            self.assertIsNone(answer_break(Hasher(4), {}, value, (0,)))
