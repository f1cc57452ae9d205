import itertools
import random
import unittest

from offing.client import Client
from offing.hashing import Hasher
from offing.maps import map_root
from offing.node import Node
from offing.questions import answer_of, ask, is_question, plain_answer, proof_of, step_holds
from offing.trust import Policy
from tests import chains, reference_maps
from tests.reference_questions import ODD, answer, next_key, proof, shown

LAST = 2 ** 32 - 1
HALF = 2 ** 31
KEYS = [0, 1, 2, 5, 9, 2 ** 30, HALF - 1, HALF, HALF + 1, LAST - 1, LAST]


def some_map(chance, many=6):
    return {chance.choice(KEYS): chance.choice((0, 1, 7, 50, 2 ** 70)) for _ in range(chance.randrange(many + 1))}


def some_question(chance):
    word = chance.choice(("key", "keys", "range", "next", "behind"))
    if word in ("key", "next"):
        return (word, chance.choice(KEYS))
    if word == "keys":
        return (word, tuple(sorted(chance.sample(KEYS, chance.randint(1, 4)))))
    if word == "range":
        return (word, *sorted(chance.choices(KEYS, k=2)))
    changes = [(chance.choice(KEYS), chance.choice((None, 0, 8, 2 ** 70))) for _ in range(chance.randint(1, 4))]
    return (word, tuple(changes))


QUESTIONS = [
    ("key", 0), ("key", 5), ("key", LAST), ("keys", (0,)), ("keys", (LAST,)), ("keys", (0, 5, LAST)),
    ("keys", tuple(range(16))), ("range", 0, LAST), ("range", 5, 5), ("range", 0, 0), ("range", LAST, LAST),
    ("next", 0), ("next", LAST), ("behind", ((0, None),)), ("behind", ((LAST, 0),)), ("behind", ((5, 2 ** 90),)),
    ("behind", ((5, 1), (5, None), (5, 2))), ("behind", tuple((key, None) for key in range(16))),
]
NO_QUESTIONS = [
    *ODD, ("key",), ("keys",), ("range",), ("range", 5), ("next",), ("behind",), ("other", 5), ("", 5), ("KEY", 5),
    ("key", 5, 6), ("keys", (5,), (6,)), ("range", 5, 6, 7), ("next", 5, 6), ("behind", ((5, 1),), ((5, 1),)),
    ("key", -1), ("key", 2 ** 32), ("key", None), ("key", "5"), ("key", (5,)), ("key", True), ("key", False),
    ("keys", ()), ("keys", tuple(range(17))), ("keys", (5, 5)), ("keys", (6, 5)), ("keys", (1, 2, 3, 3)),
    ("keys", (-1, 5)), ("keys", (5, 2 ** 32)), ("keys", 5), ("keys", (5, None)), ("keys", (5, "6")),
    ("keys", (False, 5)), ("keys", (0, True)), ("keys", ((5,),)), ("keys", "5"), ("keys", None),
    ("range", 6, 5), ("range", -1, 5), ("range", 5, 2 ** 32), ("range", None, 5), ("range", 5, None),
    ("range", False, 5), ("range", 0, True), ("range", (5,), (6,)), ("range", "5", "6"), ("range", (5, 6)),
    ("next", -1), ("next", 2 ** 32), ("next", True), ("next", None), ("next", (5,)), ("next", "5"),
    ("behind", ()), ("behind", tuple((key, 1) for key in range(17))), ("behind", ((5,),)), ("behind", ((5, 1, 2),)),
    ("behind", ((5, -1),)), ("behind", ((-1, 5),)), ("behind", ((2 ** 32, 5),)), ("behind", ((True, 5),)),
    ("behind", ((5, True),)), ("behind", ((5, False),)), ("behind", ((None, 5),)), ("behind", ((5, "6"),)),
    ("behind", ((5, (6,)),)), ("behind", (5, 6)), ("behind", 5), ("behind", None), ("behind", ((5, 1), (6, -1))),
    ("behind", ((5, 1), ())), (("key", 5),), (("key",), 5), (5, "key"), (None, 5), (True, 5), ("key", 5, None),
]


class Questions(unittest.TestCase):
    def test_questions(self):
        for question in QUESTIONS:
            self.assertIs(is_question(question), True, question)

    def test_values_that_are_none(self):
        for value in NO_QUESTIONS:
            self.assertIs(is_question(value), False, value)

    def test_deep_values(self):
        deep = ()
        for _ in range(50000):
            deep = (deep,)
        for value in (deep, ("key", deep), ("keys", deep), ("keys", (deep,)), ("range", deep, deep), (deep, 5),
                      ("next", deep), ("behind", deep), ("behind", ((5, deep),)), ("behind", ((deep, 5),))):
            self.assertIs(is_question(value), False)
        for question in QUESTIONS:
            for told in (deep, (deep,), (5, deep)):
                self.assertIsNone(answer_of(Hasher(8), 5, question, told))

    def test_the_bounds_one_by_one(self):
        for many in range(19):
            self.assertIs(is_question(("keys", tuple(range(many)))), 1 <= many <= 16)
            self.assertIs(is_question(("behind", ((5, None),) * many)), 1 <= many <= 16)
        for low, high in itertools.product((-1, 0, 1, LAST, LAST + 1), repeat=2):
            inside = 0 <= low <= LAST and 0 <= high <= LAST
            self.assertIs(is_question(("range", low, high)), inside and low <= high)
            self.assertIs(is_question(("keys", (low, high))), inside and low < high)
        for key in (-2 ** 70, -1, 0, LAST, LAST + 1, 2 ** 70):
            for word in ("key", "next"):
                self.assertIs(is_question((word, key)), 0 <= key <= LAST)
            for value in (-2 ** 70, -1, 0, 2 ** 70, None):
                expected = 0 <= key <= LAST and (value is None or value >= 0)
                self.assertIs(is_question(("behind", ((key, value),))), expected)


class Answers(unittest.TestCase):
    def test_true_proofs(self):
        chance, words = random.Random(1), {}
        for _ in range(500):
            width, pairs, question = chance.choice((4, 8, 64, 128)), some_map(chance), some_question(chance)
            hasher, kept = Hasher(width), list(pairs.items())
            expected, told = answer(width, pairs, question), proof(width, pairs, question)
            self.assertEqual(plain_answer(hasher, pairs, question), expected)
            self.assertEqual(proof_of(hasher, pairs, question), told)
            self.assertEqual(answer_of(hasher, map_root(hasher, pairs), question, told), expected)
            self.assertEqual(list(pairs.items()), kept)
            words[(question[0], expected[0])] = True
        self.assertEqual(set(words), {
            ("key", "value"), ("key", "absent"), ("keys", "all"), ("range", "entries"), ("next", "entry"),
            ("next", "none"), ("behind", "root")})

    def test_the_kinds_of_values(self):
        hasher, pairs = Hasher(64), {5: 50, 9: 90}
        for question, expected in (
                (("key", 5), ("value", 50)), (("key", 6), ("absent",)),
                (("keys", (5, 6, 9)), ("all", (("value", 50), ("absent",), ("value", 90)))),
                (("range", 0, LAST), ("entries", ((5, 50), (9, 90)))), (("range", 6, 8), ("entries", ())),
                (("next", 5), ("entry", 5, 50)), (("next", 6), ("entry", 9, 90)), (("next", 10), ("none",)),
                (("behind", ((5, None), (7, 70))), ("root", map_root(hasher, {7: 70, 9: 90})))):
            told = proof_of(hasher, pairs, question)
            for found in (plain_answer(hasher, pairs, question),
                          answer_of(hasher, map_root(hasher, pairs), question, told)):
                self.assertEqual(repr(found), repr(expected))
            self.assertTrue(all(type(part) in (tuple, int) for part in told))
        # Entries ascend, in whatever order the map came about.
        self.assertEqual(plain_answer(hasher, {9: 90, 5: 50}, ("range", 0, 9)), ("entries", ((5, 50), (9, 90))))

    def test_the_greatest_key(self):
        hasher = Hasher(64)
        for pairs, expected in (({}, ("none",)), ({LAST: 7}, ("entry", LAST, 7)), ({5: 1}, ("none",))):
            for low in (6, LAST):
                told = proof_of(hasher, pairs, ("next", low))
                self.assertEqual(told[0], LAST)
                self.assertEqual(answer_of(hasher, map_root(hasher, pairs), ("next", low), told), expected)

    def test_changes_one_after_the_other(self):
        hasher, pairs = Hasher(64), {5: 50}
        for changes, expected in (
                (((5, 51), (5, None)), {}), (((5, None), (5, 52)), {5: 52}), (((6, None),), {5: 50}),
                (((6, 1), (7, 2), (6, None), (5, None)), {7: 2}), (((5, 50),), {5: 50}), (((5, 0),), {5: 0})):
            question = ("behind", changes)
            told = proof_of(hasher, pairs, question)
            self.assertEqual(len(told), len(changes))
            for found in (plain_answer(hasher, pairs, question),
                          answer_of(hasher, map_root(hasher, pairs), question, told)):
                self.assertEqual(found, ("root", map_root(hasher, expected)))

    def test_sixteen(self):
        hasher, pairs = Hasher(32), {key: key for key in range(0, 40, 3)}
        for question in (("keys", tuple(range(16))), ("behind", tuple((key, key + 1) for key in range(16)))):
            self.assertEqual(answer_of(hasher, map_root(hasher, pairs), question, proof_of(hasher, pairs, question)),
                             answer(32, pairs, question))

    def test_changed_proofs(self):
        chance, seen = random.Random(2), {}
        for _ in range(4000):
            width, pairs, question = chance.choice((4, 4, 6, 64)), some_map(chance, 4), some_question(chance)
            hasher = Hasher(width)
            told = self.spoilt(chance, proof(width, pairs, question))
            root = chance.choice((map_root(hasher, pairs),) * 3 + (0, 5, -1, 2 ** 70))
            found, expected = answer_of(hasher, root, question, told), shown(width, root, question, told)
            self.assertEqual(found, expected, (width, pairs, question, told))
            seen[(question[0], found is None)] = True
        self.assertEqual(len(seen), 10)

    def spoilt(self, chance, told):
        """A proof with one thing in it changed, cut, put in or put in another place, however deep."""
        row = list(told)
        tuples = [at for at, part in enumerate(row) if isinstance(part, tuple)]
        if tuples and chance.randrange(4):
            at = chance.choice(tuples)
            row[at] = self.spoilt(chance, row[at])
            return tuple(row)
        word, at = chance.randrange(6), chance.randrange(max(1, len(row)))
        if word == 0:
            row = row[:at]
        elif word == 1:
            row.insert(at, chance.choice((0, 1, 5, (), (0,), None, "key")))
        elif word == 2 and row:
            row[at] = chance.choice((None, "key", (), (5,), -1, 2 ** 70, 0))
        elif word in (3, 4) and row and isinstance(row[at], int):
            row[at] += chance.choice((1, -1, 2 ** 32))
        elif word == 5 and row:
            row.append(row.pop(at))
        return tuple(row)

    def test_proofs_of_other_questions_and_maps(self):
        hasher, chance = Hasher(64), random.Random(3)
        for _ in range(300):
            pairs, question, other = some_map(chance), some_question(chance), some_question(chance)
            root = map_root(hasher, pairs)
            for told in (proof(64, pairs, other), proof(64, some_map(chance), question)):
                self.assertEqual(answer_of(hasher, root, question, told), shown(64, root, question, told))

    def test_no_proofs_and_no_questions(self):
        hasher, pairs = Hasher(64), {5: 50, 9: 90}
        root = map_root(hasher, pairs)
        for question in QUESTIONS:
            for told in ODD:
                self.assertIsNone(answer_of(hasher, root, question, told), (question, told))
        for value in NO_QUESTIONS:
            for told in (proof(64, pairs, ("key", 5)), (proof(64, pairs, ("key", 5)),), *ODD):
                self.assertIsNone(answer_of(hasher, root, value, told))

    def test_as_many_proofs_as_keys(self):
        hasher, pairs = Hasher(64), {5: 50, 9: 90}
        root = map_root(hasher, pairs)
        for question in (("keys", (5, 6, 9)), ("behind", ((5, None), (6, 1), (9, 2)))):
            told = proof(64, pairs, question)
            self.assertIsNotNone(answer_of(hasher, root, question, told))
            for wrong in (told[:2], told[:1], told + told[:1], told[::-1], (told[0],) * 3, told[0], (told,), ()):
                self.assertIsNone(answer_of(hasher, root, question, wrong))

    def test_the_entry_is_the_next_one(self):
        hasher, pairs = Hasher(64), {5: 50, 9: 90, 12: 7}
        root = map_root(hasher, pairs)
        for low, key in itertools.product((0, 5, 6, 9, 10, 13), (0, 4, 5, 6, 8, 9, 10, 12, 13, LAST)):
            if low > key:
                told = (key, proof(64, pairs, ("range", key, low)))
            else:
                told = (key, proof(64, pairs, ("range", low, key)))
            expected = None
            if key == next_key(pairs, low):
                expected = answer(64, pairs, ("next", low))
            self.assertEqual(answer_of(hasher, root, ("next", low), told), expected)
        for told in ((-1, (3, 3, root)), (2 ** 32, proof(64, pairs, ("range", 13, LAST))), (2 ** 32, (3, 3, root))):
            self.assertIsNone(answer_of(hasher, root, ("next", 13), told))


class Clients(unittest.TestCase):
    def setUp(self):
        self.team = chains.team(32, (1, 2), 3)
        members = chains.members_of(self.team)
        self.node = Node(Hasher(32), 3, 100, members, members, {5: 50, 9: 90})
        for height, changes in enumerate(({5: None}, {5: 51, 6: 60}, {}, {9: 91, 6: None}), 1):
            self.node.grow(100 + height, changes, members, self.team)
        self.client = Client(self.node.hasher, Policy(10 ** 6, 0), self.node.block(0))
        self.client.follow(self.node.answers(), [1, 2, 4], 200)

    def test_answers(self):
        for height in range(-1, 6):
            pairs = self.node.pairs_at(height) or {}
            for question in QUESTIONS:
                told = proof(32, pairs, question)
                found = ask(self.client, height, question, told)
                self.assertEqual(found, answer(32, pairs, question) if height in (0, 1, 2, 4) else None)
                self.assertEqual(ask(self.client, 0, question, told),
                                 shown(32, self.node.block(0).header.state, question, told))

    def test_no_questions_and_no_proofs(self):
        told = proof(32, self.node.pairs_at(1), ("key", 5))
        for value in NO_QUESTIONS:
            self.assertIsNone(ask(self.client, 1, value, told))
        for value in ODD:
            for question in QUESTIONS:
                self.assertIsNone(ask(self.client, 1, question, value))

    def test_a_client_that_is_halted_still_has_its_answers(self):
        self.client.halted = True
        self.assertEqual(ask(self.client, 1, ("key", 9), proof(32, self.node.pairs_at(1), ("key", 9))), ("value", 90))

    def test_steps(self):
        for height, changes in ((0, ((5, None),)), (1, ((5, 51), (6, 60))), (1, ((6, 1), (6, 60), (5, 51)))):
            told = proof(32, self.node.pairs_at(height), ("behind", changes))
            self.assertIs(step_holds(self.client, height, changes, told), True)
            for wrong in (told[:-1], told + ((),), told[::-1] if len(told) > 1 else ((),), (), None, told[0]):
                self.assertIs(step_holds(self.client, height, changes, wrong), False)
            for other in (changes[:-1], changes + ((9, 8),), changes[:-1] + ((changes[-1][0], 4),)):
                told = proof(32, self.node.pairs_at(height), ("behind", other))
                self.assertIs(step_holds(self.client, height, other, told), False)

    def test_steps_of_heights_that_are_not_both_trusted(self):
        for height, changes in ((2, ((77, None),)), (3, ((9, 91), (6, None))), (4, ((77, None),)), (-1, ((77, None),))):
            told = proof(32, self.node.pairs_at(height) or {}, ("behind", changes))
            self.assertIs(step_holds(self.client, height, changes, told), False)
        self.client.follow(self.node.answers(), [3], 200)
        for height, changes in ((2, ((77, None),)), (3, ((9, 91), (6, None)))):
            told = proof(32, self.node.pairs_at(height), ("behind", changes))
            self.assertIs(step_holds(self.client, height, changes, told), True)

    def test_steps_whose_changes_are_none_of_a_question(self):
        for changes in ((), tuple((key, None) for key in range(100, 117)), ((77, -1),), ((-1, 5),), 5, None, "changes",
                        ((5, None, 1),), (5, None), ((2 ** 32, None),)):
            self.assertIs(step_holds(self.client, 0, changes, ()), False)
            self.assertIs(step_holds(self.client, 0, changes, ((0,),)), False)
        # Many changes are to be told in two parts, so more than 16 at once lead nowhere.
        many = tuple((key, None) for key in range(100, 116)) + ((5, None),)
        told = tuple(reference_maps.proof(32, self.node.pairs_at(0), key) for key, _ in many)
        self.assertIs(step_holds(self.client, 0, many, told), False)
        self.assertIs(step_holds(self.client, 0, many[1:], told[1:]), True)


class Example(unittest.TestCase):
    def test_the_example(self):
        hasher = Hasher(64)
        pairs = {5: 50, 9: 90}
        questions = [("keys", (5, 6)), ("range", 6, 20), ("next", 6), ("next", 10)]
        self.assertEqual(
            [answer_of(hasher, map_root(hasher, pairs), one, proof_of(hasher, pairs, one)) for one in questions],
            [("all", (("value", 50), ("absent",))), ("entries", ((9, 90),)), ("entry", 9, 90), ("none",)])
        question = ("behind", ((9, None),))
        self.assertEqual(answer_of(hasher, map_root(hasher, pairs), question, proof_of(hasher, pairs, question)),
                         ("root", map_root(hasher, {5: 50})))
