import itertools
import random
import unittest
from fractions import Fraction

from offing.hashing import Hasher
from offing.validators import (
    MEMBERS_TAG, members_fault, members_numbers, members_root, more_than, signers, total, weight_of)
from tests import chains, reference


class Members(unittest.TestCase):
    def test_members_in_order(self):
        good = [((0, 1),), ((5, 1), (9, 1), (12, 2)), ((0, 1000000), (1, 1)), ((2 ** 70, 1), (2 ** 70 + 1, 999999))]
        good += [tuple((public, 1) for public in range(many)) for many in (1, 2, 63, 64)]
        for members in good:
            self.assertIsNone(members_fault(members), members)

    def test_the_number_of_members(self):
        for many in (0, 65, 66, 200):
            self.assertEqual(members_fault(tuple((public, 1) for public in range(many))), "count")

    def test_the_order_of_publics(self):
        bad = [((-1, 1),), ((-2 ** 70, 1),), ((5, 1), (5, 1)), ((9, 1), (5, 1)), ((5, 1), (9, 1), (9, 2)),
               ((5, 1), (9, 1), (8, 1)), ((-2, 1), (-1, 1)), ((-1, 1), (3, 1)), ((1, 1), (-1, 1)), ((0, 1), (0, 1))]
        for members in bad:
            self.assertEqual(members_fault(members), "order", members)

    def test_weights(self):
        for weight, fault in ((-1, "weight"), (0, "weight"), (1, None), (2, None), (999999, None), (1000000, None),
                              (1000001, "weight"), (2 ** 70, "weight"), (-2 ** 70, "weight")):
            self.assertEqual(members_fault(((5, weight),)), fault)
            self.assertEqual(members_fault(((5, 1), (6, weight))), fault)
            self.assertEqual(members_fault(((5, weight), (6, 1), (7, 1))), fault)

    def test_the_first_of_several_faults(self):
        many = tuple((public, 1) for public in range(65))
        self.assertEqual(members_fault(many[::-1]), "count")
        self.assertEqual(members_fault(tuple((public, 0) for public, _ in many)), "count")
        self.assertEqual(members_fault(((3, 1),) * 65), "count")
        self.assertEqual(members_fault(((5, 0), (4, 1))), "order")
        self.assertEqual(members_fault(((5, 1), (6, 0), (6, 1))), "order")
        self.assertEqual(members_fault(((-1, 0),)), "order")

    def test_the_numbers_and_the_root(self):
        self.assertEqual(MEMBERS_TAG, 9)
        for width in (4, 64, 128):
            for members in ((), ((5, 1),), ((5, 1), (2 ** 70, 1000000)), ((9, 1), (9, 0), (3, 2 ** 40))):
                numbers = [len(members), *[number for pair in members for number in pair]]
                self.assertEqual(members_numbers(members), numbers)
                self.assertEqual(members_root(Hasher(width), members), reference.digest(width, 9, numbers))

    def test_the_list_of_numbers_is_new(self):
        members = ((5, 1), (6, 2))
        members_numbers(members).append(7)
        self.assertEqual(members_numbers(members), [2, 5, 1, 6, 2])


class Weights(unittest.TestCase):
    members = ((5, 1), (9, 10), (12, 100), (13, 1000000))

    def test_the_weight_of_all(self):
        self.assertEqual(total(self.members), 1000111)
        self.assertEqual(total(((7, 3),)), 3)
        self.assertEqual(total(()), 0)

    def test_the_weight_of_some(self):
        cases = [([], 0), ([5], 1), ([9, 5], 11), ([5, 5, 5], 1), ([12, 9, 12], 110), ([6], 0), ([6, -1, 9], 10),
                 ([13, 12, 9, 5], 1000111), ([1], 0), ([100], 0)]
        for publics, weight in cases:
            kept = list(publics)
            self.assertEqual(weight_of(self.members, publics), weight)
            self.assertEqual(weight_of(self.members, tuple(publics)), weight)
            self.assertEqual(publics, kept)

    def test_just_the_part_and_one_beside_it(self):
        for weights, parts, whole in itertools.product(itertools.product((1, 2, 3), repeat=3), (0, 1, 2, 3), (1, 2, 3)):
            members = tuple(enumerate(weights))
            for publics in ([], [0], [1], [0, 1], [1, 2], [0, 1, 2], [2, 2], [2, 7], [9]):
                part = Fraction(sum(weights[public] for public in set(publics) if public < 3), sum(weights))
                answer = more_than(members, publics, parts, whole)
                self.assertIs(answer, part > Fraction(parts, whole), (members, publics, parts, whole))

    def test_great_weights(self):
        members = ((1, 666666), (2, 333333), (3, 1))
        self.assertIs(more_than(members, [1], 2, 3), False)
        self.assertIs(more_than(members, [1, 3], 2, 3), True)
        self.assertIs(more_than(members, [2], 1, 3), False)
        self.assertIs(more_than(members, [2, 3], 1, 3), True)

    def test_no_parts_and_negative_ones(self):
        members = ((5, 2), (9, 1))
        cases = [([], 0, 1, False), ([5], 0, 1, True), ([], -1, 3, True), ([5], -1, 3, True), ([], 0, 0, False),
                 ([5], 0, 0, False), ([5], -1, 0, True), ([], 1, -3, False), ([5], -2, -3, False),
                 ([9], -2, -3, True), ([9], -1, -3, False), ([], -1, -3, True), ([5, 9], 1, 1, False),
                 ([5, 9], 0, -1, False), ([8], 0, 1, False)]
        for publics, parts, whole, answer in cases:
            self.assertIs(more_than(members, publics, parts, whole), answer, (publics, parts, whole))

    def test_the_example(self):
        members = ((5, 1), (9, 1), (12, 2))
        self.assertEqual([
            members_fault(members), members_fault(members[::-1]), members_fault(((5, 0),)),
            more_than(members, [9, 12], 2, 3)], [None, "order", "weight", True])
        self.assertEqual([more_than(members, [12], 1, 2), more_than(members, [12, 7], 1, 3)], [False, True])


class Signers(unittest.TestCase):
    def setUp(self):
        self.hasher = Hasher(32)
        self.team = chains.team(32, (1, 2, 3, 4))
        self.members = chains.members_of(self.team[:3])
        self.message = 77777

    def vote(self, one, message=None, index=1):
        return (one.public, one.sign(index, self.message if message is None else message))

    def answer(self, votes, members=None):
        kept = list(votes)
        found = signers(self.hasher, self.message, self.members if members is None else members, votes)
        self.assertEqual(list(votes), kept)
        self.assertIs(type(found), tuple)
        return [[one.public for one in self.team].index(public) for public in found]

    def test_votes_that_are_right(self):
        one, two, three, _ = self.team
        self.assertEqual(self.answer(()), [])
        self.assertEqual(self.answer((self.vote(two),)), [1])
        self.assertEqual(self.answer((self.vote(one), self.vote(two), self.vote(three))), [0, 1, 2])
        self.assertEqual(self.answer((self.vote(three), self.vote(one))), [0, 2])
        self.assertEqual(self.answer((self.vote(one, index=0), self.vote(two, index=3))), [0, 1])

    def test_votes_that_are_wrong(self):
        one, two, three, _ = self.team
        right = self.vote(one)[1]
        for wrong in ((), (1,), right[:-1], right + (0,), (0,) + right[1:], (9,) + right[1:], (-1,) * len(right),
                      right[:3] + (right[3] ^ 1,) + right[4:], self.vote(one, 77776)[1], self.vote(two)[1]):
            self.assertEqual(self.answer(((one.public, wrong),)), [])
            self.assertEqual(self.answer(((one.public, wrong), self.vote(three))), [2])

    def test_votes_of_others(self):
        one, two, _, other = self.team
        self.assertEqual(self.answer((self.vote(other),)), [])
        self.assertEqual(self.answer((self.vote(other), self.vote(two))), [1])
        self.assertEqual(self.answer(((other.public, self.vote(one)[1]), (one.public, self.vote(other)[1]))), [])
        self.assertEqual(self.answer(((-1, self.vote(one)[1]), (one.public + 2 ** 32, self.vote(one)[1]))), [])
        self.assertEqual(self.answer((self.vote(one),), ()), [])
        self.assertEqual(self.answer((self.vote(other),), chains.members_of(self.team)), [3])

    def test_doubled_votes(self):
        one, two, _, _ = self.team
        wrong = (one.public, self.vote(one, 5)[1])
        for votes in itertools.permutations((wrong, self.vote(one), self.vote(two))):
            self.assertEqual(self.answer(votes), [0, 1])
        self.assertEqual(self.answer((wrong, wrong)), [])
        self.assertEqual(self.answer((self.vote(one), self.vote(one))), [0])
        self.assertEqual(self.answer((self.vote(one), self.vote(one, index=2), wrong)), [0])
        self.assertEqual(self.answer((wrong, self.vote(one, index=2), self.vote(one))), [0])

    def test_members_that_are_not_in_order(self):
        one, two, _, _ = self.team
        doubled = ((two.public, 1), (one.public, 0), (two.public, -3), (-5, 1))
        self.assertEqual(self.answer((self.vote(two), self.vote(one)), doubled), [0, 1])

    def test_the_message_matters(self):
        votes = tuple(self.vote(one) for one in self.team)
        for message in (77776, 0, 2 ** 32 - 1):
            self.assertEqual(signers(self.hasher, message, self.members, votes), ())

    def test_votes_by_chance(self):
        chance = random.Random(2)
        for _ in range(150):
            votes, right = [], set()
            for _ in range(chance.randrange(6)):
                place = chance.randrange(4)
                one, is_right = self.team[place], chance.random() < 0.5
                votes.append(self.vote(one, None if is_right else 12, chance.randrange(4)))
                if is_right and place < 3:
                    right.add(place)
            self.assertEqual(self.answer(votes), sorted(right))
