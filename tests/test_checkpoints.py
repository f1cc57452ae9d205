import itertools
import random
import unittest

from offing.checkpoints import Follower, Log, compare, judge_follower, log_item, shown_break, split_holds, split_paper
from offing.hashing import Hasher, is_collision
from offing.headers import Header
from tests import chains
from tests import reference_lists as plain
from tests.reference import digest

# Values that are neither checkpoints, nor proofs, nor papers.
ODD = [0, 5, -1, (), (0,), (5, 6, 7), ((),), ((0, 1),), (0, ()), ((), 0), ((0,), (1,)), (-1, 5), (5, -1), (-1, -1),
       (2 ** 70, 2 ** 70), ((0, 1), (2, 3)), (0, (1, 2), (3, 4)), ((((((((((5,),),),),),),),),),)]


def header_of(height, state=0):
    return Header(1, height, 100 + height, 7, state, 5, 6)


def item_of(width, height, header):
    return digest(width, 11, [height, chains.header_digest(width, header.fields())])


def log_of(width, states):
    """A log of headers with these states."""
    log = Log(Hasher(width))
    for height, state in enumerate(states):
        log.add(header_of(height, state))
    return log


def growth(width, log, old, size):
    return plain.growth(width, log.leaves[:size], old)


class Logs(unittest.TestCase):
    def test_all_sizes(self):
        for width in (8, 64):
            for many in range(9):
                log, headers = log_of(width, range(many)), [header_of(height, height) for height in range(many)]
                items = [item_of(width, height, header) for height, header in enumerate(headers)]
                self.assertEqual(log.headers, headers)
                self.assertEqual(log.leaves, items)
                self.assertEqual([log_item(Hasher(width), *pair) for pair in enumerate(headers)], items)
                for size in range(many + 1):
                    self.assertEqual(log.checkpoint(size), (size, plain.root(width, items[:size])))
                    for old in range(size + 1):
                        self.assertEqual(log.growth(old, size), plain.growth(width, items[:size], old))
                    for k in range(size):
                        self.assertEqual(log.proof(size, k), plain.proof(width, items[:size], k))

    def test_an_empty_log(self):
        log = Log(Hasher(32))
        self.assertEqual((log.headers, log.leaves), ([], []))
        self.assertEqual(log.checkpoint(0), (0, digest(32, 0, [])))
        self.assertEqual(log.growth(0, 0), ())

    def test_the_height_is_the_index(self):
        """It is said of a header; its own height may be another one."""
        log, header = Log(Hasher(32)), header_of(9)
        for _ in range(3):
            log.add(header)
        self.assertEqual(log.leaves, [item_of(32, height, header) for height in range(3)])
        self.assertEqual(len(set(log.leaves)), 3)

    def test_copies(self):
        log = log_of(32, range(3))
        copy = log.copy()
        self.assertIs(type(copy), Log)
        self.assertEqual((copy.headers, copy.leaves), (log.headers, log.leaves))
        copy.add(header_of(3))
        self.assertEqual((len(log.headers), len(log.leaves), len(copy.headers), len(copy.leaves)), (3, 3, 4, 4))
        log.add(header_of(3, 9))
        self.assertEqual(copy.checkpoint(3), log.checkpoint(3))
        self.assertNotEqual(copy.checkpoint(4), log.checkpoint(4))

    def test_the_caller_may_change_a_header(self):
        log, header = Log(Hasher(32)), header_of(0)
        log.add(header)
        header.state = 5
        self.assertEqual(log.headers, [header_of(0)])


class Followers(unittest.TestCase):
    def test_all_growths(self):
        for width in (8, 64):
            log = log_of(width, range(8))
            for sizes in itertools.combinations_with_replacement(range(9), 3):
                follower = Follower(Hasher(width))
                self.assertEqual(follower.taken, [(0, digest(width, 0, []))])
                before = 0
                for size in sizes:
                    self.assertIs(follower.advance(log.checkpoint(size), growth(width, log, before, size)), True)
                    self.assertEqual(follower.checkpoint(), log.checkpoint(size))
                    before = size
                self.assertEqual(follower.taken, [log.checkpoint(size) for size in (0, *sizes)])

    def refuses(self, follower, checkpoint, proof):
        kept = list(follower.taken)
        self.assertIs(follower.advance(checkpoint, proof), False)
        self.assertEqual(follower.taken, kept)

    def test_none_from_a_greater_to_a_smaller_one(self):
        log = log_of(64, range(8))
        for old, size in itertools.combinations(range(9), 2):
            follower = Follower(Hasher(64))
            follower.advance(log.checkpoint(size), growth(64, log, 0, size))
            for proof in (growth(64, log, old, size), (), log.checkpoint(old)[1:], growth(64, log, 0, old)):
                self.refuses(follower, log.checkpoint(old), proof)

    def test_proofs_that_are_changed(self):
        log = log_of(64, range(7))
        for old, size in itertools.combinations_with_replacement(range(8), 2):
            follower = Follower(Hasher(64))
            follower.advance(log.checkpoint(old), growth(64, log, 0, old))
            proof = growth(64, log, old, size)
            wrong = [proof + (0,), proof + proof[:1], (0, *proof)] if proof else [(0,), (0, 0)]
            for at in range(len(proof)):
                wrong += [proof[:at] + (proof[at] + more,) + proof[at + 1:] for more in (1, -1, 2 ** 64, -2 ** 64)]
                wrong += [proof[:at] + proof[at + 1:], proof[:at] + ((proof[at],),) + proof[at + 1:]]
            for told in wrong + [value for value in ODD if value != proof]:
                self.refuses(follower, log.checkpoint(size), told)
            root = log.checkpoint(size)[1]
            # From no items on, a root grows to any size.
            others = [(size + 1, root), (size - 1, root)] if old > 0 else []
            for checkpoint in ((size, root + 1), (size, -root), (size, (root,)), (size, root, root), (size,),
                               ((size, root),), *others, *ODD):
                self.refuses(follower, checkpoint, proof)
            self.assertIs(follower.advance(log.checkpoint(size), proof), True)

    def test_another_log(self):
        one, other = log_of(64, [0, 1, 2, 3, 4]), log_of(64, [0, 1, 9, 3, 4])
        for old, size in itertools.combinations(range(1, 6), 2):
            follower = Follower(Hasher(64))
            follower.advance(one.checkpoint(old), growth(64, one, 0, old))
            self.assertIs(follower.advance(other.checkpoint(size), growth(64, other, old, size)), old < 3)

    def test_headers_that_are_shown(self):
        for width in (8, 64):
            log = log_of(width, range(7))
            for size in range(8):
                follower = Follower(Hasher(width))
                follower.advance(log.checkpoint(size), growth(width, log, 0, size))
                for k, height in itertools.product(range(size), range(-1, 9)):
                    proof = plain.proof(width, log.leaves[:size], k)
                    header = log.headers[k]
                    item = item_of(width, height, header) if height >= 0 else 0
                    root = log.checkpoint(size)[1]
                    expected = plain.accepted(width, root, size, height, item, proof)
                    self.assertIs(follower.shows(height, header, proof), expected)
                    if height == k or width > 8:
                        self.assertIs(expected, height == k)

    def test_headers_that_are_not_shown(self):
        log, follower = log_of(64, range(6)), Follower(Hasher(64))
        self.assertIs(follower.shows(0, log.headers[0], ()), False)
        follower.advance(log.checkpoint(6), growth(64, log, 0, 6))
        for k in range(6):
            proof = plain.proof(64, log.leaves, k)
            self.assertIs(follower.shows(k, log.headers[k], proof), True)
            for at in range(7):
                fields = list(log.headers[k].fields())
                fields[at] += 1
                self.assertIs(follower.shows(k, Header(*fields), proof), False)
            for wrong in (proof[:-1], proof + (0,), (proof,), proof[:-1] + ((5,),), proof[:-1] + (-1,), *ODD):
                self.assertIs(follower.shows(k, log.headers[k], wrong), False)
            for height in (-1, 6, 2 ** 70, -2 ** 70):
                self.assertIs(follower.shows(height, log.headers[k], proof), False)
        # The last checkpoint counts alone.
        later = log_of(64, [*range(6), 9])
        follower.advance(later.checkpoint(7), growth(64, later, 6, 7))
        self.assertIs(follower.shows(2, log.headers[2], plain.proof(64, log.leaves, 2)), False)
        self.assertIs(follower.shows(2, log.headers[2], plain.proof(64, later.leaves, 2)), True)


class Comparisons(unittest.TestCase):
    def test_one_size(self):
        one, other = log_of(64, [0, 1, 2, 3]), log_of(64, [0, 1, 9, 3])
        for size in range(5):
            for proof in (None, (), (5,), one.growth(size, size)):
                pair = (one.checkpoint(size), other.checkpoint(size))
                self.assertEqual(compare(Hasher(64), *pair, proof), "same" if size < 3 else "split")
                self.assertEqual(compare(Hasher(64), pair[0], pair[0], proof), "same")
        self.assertEqual(compare(Hasher(64), (5, 1), (5, 2), None), "split")

    def test_two_sizes(self):
        one, other = log_of(64, range(7)), log_of(64, [0, 1, 2, 9, 4, 5, 6])
        for old, size in itertools.combinations(range(8), 2):
            for later in (one, other):
                pair, proof = (one.checkpoint(old), later.checkpoint(size)), growth(64, later, old, size)
                expected = "grown" if later is one or old < 4 else "unknown"
                for told in (pair, pair[::-1]):
                    self.assertEqual(compare(Hasher(64), *told, proof), expected)
                    for wrong in (None, (), proof[:-1], proof + (0,), (0,) * len(proof), (-1,) * len(proof)):
                        self.assertEqual(compare(Hasher(64), *told, wrong), "unknown")


class Papers(unittest.TestCase):
    def test_all_logs_that_differ_or_not(self):
        hasher = Hasher(64)
        logs = [log_of(64, states) for many in range(5) for states in itertools.product((0, 1), repeat=many)]
        for one, other in itertools.product(logs, repeat=2):
            sizes = (len(one.leaves), len(other.leaves))
            places = [at for at in range(min(sizes)) if one.headers[at] != other.headers[at]]
            paper = split_paper(one, other, *sizes)
            if not places:
                self.assertIsNone(paper)
                continue
            at = places[0]
            self.assertEqual(paper, (at, *[(log.leaves[at], plain.proof(64, log.leaves, at)) for log in (one, other)]))
            pair = (one.checkpoint(sizes[0]), other.checkpoint(sizes[1]))
            self.assertIs(split_holds(hasher, *pair, paper), True)
            self.assertIs(split_holds(hasher, *pair[::-1], (paper[0], paper[2], paper[1])), True)
            self.assertIs(split_holds(hasher, *pair[::-1], paper), False)

    def test_all_sizes(self):
        hasher, one, other = Hasher(64), log_of(64, range(6)), log_of(64, [0, 1, 2, 9, 9, 9, 9])
        for first, second in itertools.product(range(7), range(8)):
            paper = split_paper(one, other, first, second)
            self.assertEqual(paper is None, min(first, second) < 4)
            if paper is not None:
                self.assertEqual((paper[0], [len(paper), type(paper)]), (3, [3, tuple]))
                self.assertIs(split_holds(hasher, one.checkpoint(first), other.checkpoint(second), paper), True)
                self.assertEqual(paper[1], (one.leaves[3], plain.proof(64, one.leaves[:first], 3)))
                self.assertEqual(paper[2], (other.leaves[3], plain.proof(64, other.leaves[:second], 3)))

    def test_papers_of_other_places(self):
        hasher, one, other = Hasher(64), log_of(64, range(6)), log_of(64, [0, 1, 8, 3, 9, 5])
        pair = (one.checkpoint(6), other.checkpoint(6))
        for at in range(6):
            paper = (at, *[(log.leaves[at], plain.proof(64, log.leaves, at)) for log in (one, other)])
            self.assertIs(split_holds(hasher, *pair, paper), at in (2, 4))

    def test_papers_that_are_changed(self):
        hasher, one, other = Hasher(64), log_of(64, range(6)), log_of(64, [0, 1, 8, 3, 9])
        pair, paper = (one.checkpoint(6), other.checkpoint(5)), split_paper(one, other, 6, 5)
        self.assertIs(split_holds(hasher, *pair, paper), True)
        place, (item, proof), (told, second) = paper
        for wrong in (
                (1, *paper[1:]), (3, *paper[1:]), (-1, *paper[1:]), (2 ** 70, *paper[1:]), ((2,), *paper[1:]),
                (place, paper[1], paper[1]), (place, paper[2], paper[1]), (place, paper[1]), paper + (0,), paper[1:],
                (place, (item + 1, proof), paper[2]), (place, (item, proof[:-1]), paper[2]),
                (place, (item, proof + (0,)), paper[2]), (place, (-1, proof), paper[2]), (place, ((item,), proof), paper[2]),
                (place, (item, (proof,)), paper[2]), (place, (item, proof[0]), paper[2]), (place, (item,), paper[2]),
                (place, (item, proof, 0), paper[2]), (place, item, paper[2]), (place, paper[1], (told + 1, second)),
                (place, paper[1], (told, second[1:])), (place, paper[1], (told, second + (0,))),
                (place, paper[1], (told, (0,) * len(second))), (place, paper[1], told), (place, paper[1], ()),
                (place, paper[1], (told, second[:-1] + (-1,))), *ODD):
            self.assertIs(split_holds(hasher, *pair, wrong), False, wrong)
        for others in ((one.checkpoint(5), pair[1]), (pair[0], other.checkpoint(4)), (pair[0], pair[0])):
            self.assertIs(split_holds(hasher, *others, paper), False)


class Judges(unittest.TestCase):
    def test_those_of_the_log(self):
        log = log_of(64, range(7))
        for sizes in itertools.combinations_with_replacement(range(8), 3):
            row = (0, *sizes)
            proofs = [growth(64, log, *pair) for pair in zip(row, row[1:])]
            self.assertIsNone(judge_follower(log, [log.checkpoint(size) for size in row], proofs))
        self.assertIsNone(judge_follower(log, [log.checkpoint(0)], []))

    def test_those_of_another_log(self):
        log, other = log_of(64, range(7)), log_of(64, [0, 1, 2, 9, 4, 5, 6, 7, 8])
        for sizes in itertools.combinations_with_replacement(range(10), 3):
            row = (0, *sizes)
            taken = [other.checkpoint(size) for size in row]
            proofs = [growth(64, other, *pair) for pair in zip(row, row[1:])]
            wrong = [at for at, size in enumerate(row) if size > 3]
            kept = list(taken), list(proofs)
            self.assertEqual(judge_follower(log, taken, proofs), ("other", wrong[0]) if wrong else None)
            self.assertEqual((taken, proofs), kept)

    def test_a_checkpoint_greater_than_the_log(self):
        log = log_of(64, range(4))
        whole = log_of(64, range(6))
        taken, proofs = [whole.checkpoint(size) for size in (0, 3, 6)], [growth(64, whole, 0, 3), growth(64, whole, 3, 6)]
        self.assertEqual(judge_follower(log, taken, proofs), ("other", 2))
        self.assertIsNone(judge_follower(whole, taken, proofs))

    def test_followers_by_chance(self):
        """At small widths, followers that were told of two logs that part, mixed and spoilt."""
        chance, seen = random.Random(1), {}
        for _ in range(2500):
            width = chance.choice((4, 4, 5))
            many = chance.randrange(2, 8)
            states = [0] * many
            log = log_of(width, states)
            parting = chance.randrange(many)
            other = log_of(width, states[:parting] + [chance.randrange(1, 9) for _ in states[parting:]] + [5])
            follower, proofs = Follower(Hasher(width)), []
            for _ in range(8):
                told = chance.choice((log, other))
                old, size = follower.checkpoint()[0], chance.randrange(len(told.leaves) + 1)
                if old > size:
                    continue
                proof = list(growth(width, told, old, size))
                for at in range(len(proof)):
                    if chance.randrange(3) == 0:
                        proof[at] = chance.randrange(2 ** width)
                checkpoint = told.checkpoint(size)
                if chance.randrange(4) == 0:
                    checkpoint = (size, chance.randrange(2 ** width))
                if follower.advance(checkpoint, tuple(proof)):
                    proofs.append(tuple(proof))
            kind = self.check(width, log, follower.taken, proofs)
            seen[kind] = seen.get(kind, 0) + 1
        self.assertLessEqual({"none", "other", "collision"}, set(seen), seen)

    def check(self, width, log, taken, proofs):
        own = [size <= len(log.leaves) and root == plain.root(width, log.leaves[:size]) for size, root in taken]
        found = judge_follower(log, taken, proofs)
        wrong = [k for k in range(len(proofs)) if own[k + 1] and not own[k]]
        if wrong:
            k = wrong[0]
            items, old = log.leaves[:taken[k + 1][0]], taken[k][0]
            inputs = plain.growth_inputs(width, len(items), old, proofs[k])
            mine = plain.growth_inputs(width, len(items), old, plain.growth(width, items, old))
            pair = self.first_difference(width, items, old, mine, inputs)
            self.assertEqual(found, ("collision", *pair))
            self.assertIs(is_collision(Hasher(width), found), True)
            return "collision"
        self.assertEqual(found, None if all(own) else ("other", own.index(False)))
        return "none" if found is None else "other"

    def first_difference(self, width, items, old, mine, inputs):
        # From the root down: the greater a node, the nearer it is to the root.
        pairs = sorted(zip(mine, inputs), key=lambda pair: -pair[0][1][0])
        return next((one, told) for one, told in pairs if one != told)


class Shown(unittest.TestCase):
    def test_true_ones_and_refused_ones(self):
        log = log_of(64, range(6))
        for size in range(7):
            for k in range(size):
                proof = plain.proof(64, log.leaves[:size], k)
                self.assertIsNone(shown_break(log, size, k, log.headers[k], proof))
                for height, header, told in (
                        (k, header_of(k, 99), proof), (k + 1, log.headers[k], proof), (k, log.headers[k], proof + (0,)),
                        (-1, log.headers[k], proof), (2 ** 70, log.headers[k], proof), (k, header_of(k, 99), ())):
                    self.assertIsNone(shown_break(log, size, height, header, told))

    def test_headers_of_one_item(self):
        """The proof is the true one; the header is another one."""
        log, kinds = log_of(8, range(5)), {}
        for k, size in ((0, 1), (2, 3), (2, 5), (4, 5)):
            proof, own = plain.proof(8, log.leaves[:size], k), log.headers[k]
            for state in range(1500):
                header = header_of(k, state)
                if state == k or item_of(8, k, header) != log.leaves[k]:
                    continue
                digests = [chains.header_digest(8, one.fields()) for one in (own, header)]
                pair = ((11, (k, digests[0])), (11, (k, digests[1])))
                if digests[0] == digests[1]:
                    pair = ((8, own.fields()), (8, header.fields()))
                found = shown_break(log, size, k, header, proof)
                self.assertEqual(found, ("collision", *pair))
                self.assertIs(is_collision(log.hasher, found), True)
                kinds[found[1][0]] = True
        self.assertEqual(set(kinds), {8, 11})

    def test_proofs_by_chance(self):
        chance, seen = random.Random(2), {}
        for _ in range(6000):
            log = log_of(4, [chance.randrange(3) for _ in range(chance.randint(1, 5))])
            size = chance.randint(1, len(log.leaves))
            k = chance.randrange(size)
            proof = list(plain.proof(4, log.leaves[:size], k))
            for at in range(len(proof)):
                if chance.randrange(2) == 0:
                    proof[at] = chance.randrange(16)
            header = header_of(k, chance.randrange(6))
            found = shown_break(log, size, k, header, tuple(proof))
            item, root = item_of(4, k, header), plain.root(4, log.leaves[:size])
            if not plain.accepted(4, root, size, k, item, proof) or header == log.headers[k]:
                self.assertIsNone(found)
                kind = None
            else:
                self.assertIs(is_collision(log.hasher, found), True)
                mine = plain.made(4, size, k, log.leaves[k], plain.proof(4, log.leaves[:size], k))
                told = plain.made(4, size, k, item, tuple(proof))
                pairs = [pair for pair in zip(mine, told) if pair[0] != pair[1]]
                if pairs:
                    self.assertEqual(found, ("collision", *pairs[0]))
                kind = found[1][0]
            seen[kind] = seen.get(kind, 0) + 1
        self.assertEqual(set(seen), {None, 0, 1, 8, 11}, seen)


class Example(unittest.TestCase):
    def test_the_example(self):
        hasher = Hasher(64)
        one, other = Log(hasher), Log(hasher)
        for k in range(4):
            one.add(Header(1, k, k, 0, 0, 0, 0))
            other.add(Header(1, k, k, 0, k // 3, 0, 0))
        follower = Follower(hasher)
        self.assertEqual([follower.advance(one.checkpoint(3), one.growth(0, 3)),
                          follower.advance(other.checkpoint(4), other.growth(3, 4))], [True, True])
        paper = split_paper(one, other, 4, 4)
        self.assertEqual(
            [compare(hasher, one.checkpoint(4), other.checkpoint(4), None), paper[0],
             split_holds(hasher, one.checkpoint(4), other.checkpoint(4), paper)], ["split", 3, True])
