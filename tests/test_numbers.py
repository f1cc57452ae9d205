import itertools
import random
import unittest

from offing.errors import BadNumbers
from offing.headers import Block, Header
from offing.numbers import (
    Numbers, block_of, numbers_of_block, numbers_of_members, numbers_of_row, numbers_of_votes, row_of)

BIG = 2 ** 200
ROWS = [(), (0,), (5, -7), (-1, BIG, -BIG, 0), tuple(range(30)), (3, 3, 3)]
MEMBERS = [(), ((5, 1),), ((-5, 0), (BIG, -BIG)), tuple((k, -k) for k in range(20))]
VOTES = [(), ((5, ()),), ((5, (1, 7)), (9, ())), ((-1, (-1, BIG)), (-1, (0,)), (BIG, ()))]


def fault(read):
    """What is read, or the word of the error."""
    try:
        return read()
    except BadNumbers as error:
        return error.why


class Stop(Exception):
    pass


class Plain:
    """The rule of 02.2 once more: numbers are taken off the front."""

    def __init__(self, numbers):
        self.rest = list(numbers)

    def one(self):
        if not self.rest:
            raise Stop("end")
        return self.rest.pop(0)

    def many(self, size):
        many = self.one()
        if many not in range(len(self.rest) // size + 1):
            raise Stop("count")
        return range(many)

    def row(self):
        return tuple([self.one() for _ in self.many(1)])

    def members(self):
        return tuple([(self.one(), self.one()) for _ in self.many(2)])

    def votes(self):
        return tuple([(self.one(), self.row()) for _ in self.many(2)])

    def block(self):
        fields = [self.one() for _ in range(7)]
        return Block(Header(*fields), self.members(), self.members(), self.votes())

    def whole(self, part):
        """The part, or the word of the first fault."""
        try:
            found = getattr(self, part)()
            return "rest" if self.rest else found
        except Stop as stop:
            return stop.args[0]


def read_whole(part, numbers):
    reader = Numbers(numbers)
    found = getattr(reader, part)()
    if reader.close() is not None:
        raise AssertionError("close returns None")
    return found


def some_block(chance):
    def number():
        return chance.choice((chance.randint(-3, 9), chance.choice((-1, 1)) * chance.getrandbits(150)))

    def pairs():
        return [(number(), number()) for _ in range(chance.randrange(4))]

    votes = [(number(), tuple(number() for _ in range(chance.randrange(4)))) for _ in range(chance.randrange(4))]
    return Block(Header(*[number() for _ in range(7)]), pairs(), pairs(), votes)


def spoiled(numbers, chance):
    """Lists that differ from this one: cut off, longer, one number changed, left out or added."""
    for at in range(len(numbers)):
        yield numbers[:at]
        yield numbers[at + 1:]
        yield numbers[:at] + numbers[at + 1:]
        left = len(numbers) - at - 1
        counts = (left // 2, left // 2 + 1, left, left + 1, BIG, -BIG)
        for other in (-1, 0, 1, 2, numbers[at] + 1, numbers[at] - 1, *counts):
            yield numbers[:at] + [other] + numbers[at + 1:]
        yield numbers[:at] + [chance.randint(-2, 4)] + numbers[at:]
    yield numbers + [0]
    yield numbers + numbers


class Writing(unittest.TestCase):
    def test_rows(self):
        for row in ROWS:
            self.assertEqual(numbers_of_row(row), [len(row)] + list(row))
            self.assertEqual(numbers_of_row(list(row)), [len(row)] + list(row))

    def test_members(self):
        for members in MEMBERS:
            flat = [number for pair in members for number in pair]
            self.assertEqual(numbers_of_members(members), [len(members)] + flat)

    def test_votes(self):
        self.assertEqual(numbers_of_votes(()), [0])
        self.assertEqual(numbers_of_votes(((5, ()),)), [1, 5, 0])
        self.assertEqual(numbers_of_votes(((5, (1, 7)), (9, ()))), [2, 5, 2, 1, 7, 9, 0])
        self.assertEqual(numbers_of_votes(((-1, (-1, BIG)), (BIG, (0,)))), [2, -1, 2, -1, BIG, BIG, 1, 0])

    def test_blocks(self):
        block = Block(Header(1, -2, 3, BIG, 5, 6, 7), ((5, 1), (6, -2)), ((8, 9),), ((5, (1, 7)), (9, ())))
        expected = [1, -2, 3, BIG, 5, 6, 7, 2, 5, 1, 6, -2, 1, 8, 9, 2, 5, 2, 1, 7, 9, 0]
        self.assertEqual(numbers_of_block(block), expected)
        self.assertEqual(numbers_of_block(Block(Header(0, 0, 0, 0, 0, 0, 0), (), (), ())), [0] * 10)

    def test_lists_are_new_and_arguments_stay(self):
        row = [1, 2]
        numbers_of_row(row).append(3)
        self.assertEqual(row, [1, 2])
        block = some_block(random.Random(1))
        numbers_of_block(block).clear()
        self.assertEqual(block, some_block(random.Random(1)))


class Reading(unittest.TestCase):
    def test_each_part_is_read_as_an_equal_one(self):
        for row in ROWS:
            self.assertEqual(row_of(numbers_of_row(row)), row)
            self.assertIs(type(row_of(numbers_of_row(row))), tuple)
        for part, write, values in (
                ("row", numbers_of_row, ROWS), ("members", numbers_of_members, MEMBERS),
                ("votes", numbers_of_votes, VOTES)):
            for value in values:
                found = read_whole(part, write(value))
                self.assertEqual(found, value)
                self.assertIs(type(found), tuple)

    def test_blocks(self):
        chance = random.Random(6)
        for _ in range(200):
            block = some_block(chance)
            found = block_of(numbers_of_block(block))
            self.assertEqual(found, block)
            self.assertIs(type(found), Block)
            self.assertEqual(numbers_of_block(found), numbers_of_block(block))

    def test_different_values_have_different_lists(self):
        for write, values in ((numbers_of_row, ROWS), (numbers_of_members, MEMBERS), (numbers_of_votes, VOTES)):
            self.assertEqual(len({tuple(write(value)) for value in values}), len(values))

    def test_parts_one_behind_the_other(self):
        chance = random.Random(7)
        blocks = [some_block(chance) for _ in range(3)]
        numbers = numbers_of_row(ROWS[3]) + numbers_of_block(blocks[0]) + numbers_of_votes(VOTES[3]) + [44, -45, 46]
        numbers += numbers_of_members(MEMBERS[2]) + numbers_of_block(blocks[1]) + [2, 8, 9, 7]
        numbers += numbers_of_row(()) + numbers_of_block(blocks[2])
        kept = list(numbers)
        reader = Numbers(numbers)
        self.assertEqual(reader.row(), ROWS[3])
        self.assertEqual(reader.block(), blocks[0])
        self.assertEqual(reader.votes(), VOTES[3])
        self.assertEqual((reader.one(), reader.some(0), reader.some(2)), (44, (), (-45, 46)))
        self.assertEqual(reader.members(), MEMBERS[2])
        self.assertEqual(reader.block(), blocks[1])
        self.assertEqual((reader.count(1), reader.some(2), reader.one()), (2, (8, 9), 7))
        self.assertEqual((reader.row(), reader.block()), ((), blocks[2]))
        self.assertIsNone(reader.close())
        self.assertEqual(numbers, kept)

    def test_what_is_passed_may_change_afterwards(self):
        numbers = [2, 5, 6]
        reader = Numbers(numbers)
        numbers.clear()
        self.assertEqual(reader.row(), (5, 6))

    def test_two_readers_of_one_list(self):
        numbers = [1, 5]
        first, second = Numbers(numbers), Numbers(numbers)
        self.assertEqual((first.row(), second.row()), ((5,), (5,)))


class Faults(unittest.TestCase):
    def test_all_short_rows(self):
        for many in range(5):
            for numbers in itertools.product(range(-2, 6), repeat=many):
                numbers = list(numbers)
                kept = list(numbers)
                if not numbers:
                    expected = "end"
                elif numbers[0] < 0 or numbers[0] > many - 1:
                    expected = "count"
                else:
                    expected = tuple(numbers[1:]) if numbers[0] == many - 1 else "rest"
                self.assertEqual(fault(lambda: row_of(numbers)), expected)
                self.assertEqual(numbers, kept)

    def test_all_short_members_and_votes(self):
        for many in range(6):
            for numbers in itertools.product((-1, 0, 1, 2, 3), repeat=many):
                for part in ("members", "votes", "row"):
                    found = fault(lambda: read_whole(part, list(numbers)))
                    self.assertEqual(found, Plain(numbers).whole(part), (part, numbers))

    def test_known_faults(self):
        cases = [("row", [3, 4, 5], "count"), ("row", [2, 4, 5], (4, 5)), ("row", [1, 4, 5], "rest"),
                 ("row", [-1], "count"), ("row", [BIG], "count"), ("row", [], "end"), ("row", [0], ()),
                 ("members", [1, 5], "count"), ("members", [1, 5, 6], ((5, 6),)), ("members", [2, 5, 6, 7], "count"),
                 ("members", [-1, 5], "count"), ("members", [0, 5], "rest"), ("votes", [1, 5], "count"),
                 ("votes", [1, 5, 0], ((5, ()),)), ("votes", [2, 5, 0], "count"), ("votes", [2, 5, 2, 0, 0], "end"),
                 ("votes", [2, 5, 1, 0, 0], "end"), ("votes", [1, 5, 1], "count"), ("votes", [1, 5, -1], "count"),
                 ("votes", [2, 5, 3, 7, 7], "count"), ("votes", [1, 5, 1, 7], ((5, (7,)),)), ("votes", [], "end"),
                 ("block", [0] * 6, "end"), ("block", [0] * 9, "end"), ("block", [0] * 11, "rest"),
                 ("block", [0] * 7 + [-1], "count"), ("block", [0] * 7 + [1], "count"), ("block", [], "end"),
                 ("block", [0] * 8 + [1, 7], "count"), ("block", [0] * 9 + [1, 7], "count")]
        for part, numbers, expected in cases:
            self.assertEqual(fault(lambda: read_whole(part, numbers)), expected, (part, numbers))

    def test_spoiled_blocks(self):
        chance = random.Random(9)
        words = {}
        for _ in range(40):
            numbers = numbers_of_block(some_block(chance))
            for other in spoiled(numbers, chance):
                kept = list(other)
                found = fault(lambda: block_of(other))
                self.assertEqual(found, Plain(other).whole("block"), other)
                self.assertEqual(other, kept)
                word = found if isinstance(found, str) else "read"
                words[word] = words.get(word, 0) + 1
                if word == "read":
                    self.assertEqual(numbers_of_block(found), other)
        self.assertEqual(sorted(words), ["count", "end", "read", "rest"])

    def test_spoiled_rows_and_votes(self):
        chance = random.Random(10)
        for row in ROWS:
            for other in spoiled(numbers_of_row(row), chance):
                self.assertEqual(fault(lambda: row_of(other)), Plain(other).whole("row"))
        for votes in VOTES:
            for other in spoiled(numbers_of_votes(votes), chance):
                self.assertEqual(fault(lambda: read_whole("votes", other)), Plain(other).whole("votes"))
        for members in MEMBERS[:3]:
            for other in spoiled(numbers_of_members(members), chance):
                self.assertEqual(fault(lambda: read_whole("members", other)), Plain(other).whole("members"))

    def test_at_the_end_of_the_list(self):
        for numbers in ([], [5], [5, 6]):
            reader = Numbers(numbers)
            reader.some(len(numbers))
            for part in ("one", "row", "members", "votes", "block"):
                self.assertEqual(fault(getattr(reader, part)), "end")
                self.assertEqual(fault(getattr(Numbers([]), part)), "end")
            self.assertEqual(fault(lambda: Numbers([]).some(1)), "end")
            self.assertEqual(fault(lambda: Numbers([]).count(1)), "end")
        reader = Numbers([5])
        self.assertEqual(reader.one(), 5)
        self.assertEqual(reader.some(0), ())
        self.assertIsNone(reader.close())
        self.assertIsNone(reader.close())

    def test_one_some_and_close(self):
        self.assertEqual([Numbers([5, 6]).one(), Numbers([5, 6]).some(1), Numbers([-5, 6]).some(2)], [5, (5,), (-5, 6)])
        for count in (3, 4, BIG):
            self.assertEqual(fault(lambda: Numbers([5, 6]).some(count)), "end")
        for many in (1, 2, 50):
            self.assertEqual(fault(Numbers([0] * many).close), "rest")
        reader = Numbers([1, 2])
        reader.one()
        self.assertEqual(fault(reader.close), "rest")
        reader.one()
        self.assertIsNone(reader.close())

    def test_counts(self):
        for left, size in itertools.product(range(9), (1, 2, 3, 4)):
            for count in range(-2, 11):
                numbers = [count] + [-7] * left
                expected = count if 0 <= count * size <= left else "count"
                self.assertEqual(fault(lambda: Numbers(numbers).count(size)), expected)
            for count in (BIG, -BIG):
                self.assertEqual(fault(lambda: Numbers([count] + [1] * left).count(size)), "count")

    def test_beyond_the_bounds_no_error_of_another_kind(self):
        self.assertEqual(Numbers([5, 6]).some(-1), ())
        self.assertEqual(fault(lambda: Numbers([5]).count(0)), 5)
