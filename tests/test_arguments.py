"""Point 00.3 over the whole program: what is passed stays as it is, and lists and dicts that are returned are new."""

import copy
import importlib
import unittest

from offing.checkpoints import Follower, Log, split_paper
from offing.client import Client
from offing.fraud import fraud_of
from offing.hashing import Hasher
from offing.headers import Block, Header, vote_message
from offing.ledger import Body, account_proof, made_body, meta_of
from offing.lists import growth_proof, list_proof, list_root
from offing.maps import map_proof, map_root, range_proof
from offing.node import Node
from offing.numbers import Numbers, numbers_of_block
from offing.questions import proof_of
from offing.saving import saved_client, saved_node
from offing.signing import Signer
from offing.trust import Policy
from tests import chains
from tests.test_sources import CLASSES, FUNCTIONS

WIDTH = 32


def shape(value):
    """All that a value holds, whatever it is made of, but for what is kept privately."""
    if isinstance(value, dict):
        return {key: shape(part) for key, part in value.items()}, list(value)
    if isinstance(value, (list, tuple)):
        return type(value), [shape(part) for part in value]
    if hasattr(value, "__dict__"):
        own = {name: part for name, part in vars(value).items() if not name.startswith("_")}
        return type(value), {name: shape(part) for name, part in own.items()}, told(value)
    return value


def told(value):
    """What the objects that do something tell of themselves."""
    if isinstance(value, Node):
        return saved_node(value)
    return saved_client(value) if isinstance(value, Client) else None


class Arguments(unittest.TestCase):
    def setUp(self):
        self.hasher = Hasher(WIDTH)
        team = chains.team(WIDTH, (1, 2, 3), 3)
        self.team, self.members = list(team), chains.members_of(team)
        self.node = Node(self.hasher, 3, 100, self.members, self.members, {5: 50, 9: 90})
        for height in (1, 2, 3):
            self.node.grow(100 + height, {5: None, height: height}, self.members, team)
        self.policy = Policy(10 ** 6, 0)
        self.client = Client(self.hasher, self.policy, self.node.block(0))
        self.client.reach(self.node.answers(), 2, 200)
        self.block = self.node.block(2)
        self.forged = chains.voted(WIDTH, chains.changed(self.block, state=77), team)
        self.accounts()
        self.logs()

    def accounts(self):
        self.pairs, self.transfers = {1: 5, 2: 3}, [(1, 7, 5), (2, 1, 1)]
        self.body = made_body(self.hasher, self.pairs, self.transfers)
        self.before = meta_of(self.hasher, map_root(self.hasher, self.pairs), made_body(self.hasher, self.pairs, []))
        self.after = meta_of(self.hasher, self.body.roots[-1], self.body)
        self.wrong = Body([(1, 2, 9)], [self.body.roots[0], 5])
        self.wrong_after = meta_of(self.hasher, 5, self.wrong)
        self.paper = fraud_of(self.hasher, self.pairs, self.before, self.wrong_after, self.wrong)

    def logs(self):
        self.log, self.other = Log(self.hasher), Log(self.hasher)
        for height in range(4):
            self.log.add(self.node.block(height).header)
            self.other.add(Header(3, height, 5, 5, 5, 5, 5))
        self.follower = Follower(self.hasher)
        self.follower.advance(self.log.checkpoint(2), self.log.growth(0, 2))

    def calls(self):
        """The arguments of one call of each function of the interface."""
        hasher, items, pairs, node, client, log = self.hasher, [7, 8, 9], {5: 50, 9: 90}, self.node, self.client, self.log
        row, root = list(list_proof(hasher, items, 1)), list_root(hasher, items)
        question = ("keys", (5, 6))
        signer, message = self.team[0], vote_message(hasher, self.block.header)
        signature = signer.sign(2, message)
        meta_roots = (map_root(hasher, self.before), map_root(hasher, self.wrong_after))
        return {
            "collision": ((0, [1]), (0, [2])), "is_collision": (hasher, ("collision", (0, (1,)), (0, (2,)))),
            "digits_of": (WIDTH, 5), "verify": (hasher, signer.public, message, signature),
            "signing_break": (signer, {1: 5}, message, signature), "numbers_of_row": ([1, 2],),
            "numbers_of_members": (list(self.members),), "numbers_of_votes": (list(self.block.votes),),
            "numbers_of_block": (self.block,), "row_of": ([2, 5, 6],), "block_of": (numbers_of_block(self.block),),
            "list_root": (hasher, items), "list_proof": (hasher, items, 1), "growth_proof": (hasher, items, 2),
            "list_check": (hasher, root, 3, 1, 8, row), "list_break": (hasher, items, 1, 8, row),
            "growth_check": (hasher, list_root(hasher, items[:2]), 2, root, 3, list(growth_proof(hasher, items, 2))),
            "growth_break": (hasher, items, list_root(hasher, [7, 8]), 2, list(growth_proof(hasher, items, 2))),
            "members_fault": (list(self.members),), "members_root": (hasher, list(self.members)),
            "members_numbers": (list(self.members),), "total": (list(self.members),),
            "weight_of": (list(self.members), [signer.public]), "more_than": (list(self.members), [5], 1, 3),
            "signers": (hasher, message, list(self.members), list(self.block.votes)),
            "header_digest": (hasher, self.block.header), "vote_message": (hasher, self.block.header),
            "block_signers": (hasher, self.block), "lists_fault": (hasher, self.block),
            "block_fault": (hasher, 3, self.block),
            "follows_fault": (hasher, node.block(1).header, self.block.header),
            "map_root": (hasher, pairs), "map_proof": (hasher, pairs, 5), "range_proof": (hasher, pairs, 0, 7),
            "map_check": (hasher, map_root(hasher, pairs), 5, list(map_proof(hasher, pairs, 5))),
            "range_check": (hasher, map_root(hasher, pairs), 0, 7, list(range_proof(hasher, pairs, 0, 7))),
            "map_changed": (hasher, map_root(hasher, pairs), 5, None, list(map_proof(hasher, pairs, 5))),
            "map_break": (hasher, pairs, 5, list(map_proof(hasher, pairs, 5))),
            "range_break": (hasher, pairs, 0, 7, list(range_proof(hasher, pairs, 0, 7))),
            "step_fault": (hasher, self.policy, node.block(0), self.block, 200),
            "judge_step": (node, 0, self.forged), "judge_steps": (node, [(0, self.block), (0, self.forged)]),
            "verdict_holds": (node, ("culprits", 0, tuple(public for public, _ in self.members), self.forged)),
            "double_signers": (hasher, self.block, self.forged), "is_question": (question,),
            "plain_answer": (hasher, pairs, question), "proof_of": (hasher, pairs, question),
            "answer_of": (hasher, map_root(hasher, pairs), question, proof_of(hasher, pairs, question)),
            "answer_break": (hasher, pairs, question, proof_of(hasher, pairs, question)),
            "ask": (client, 2, question, proof_of(hasher, node.pairs_at(2), question)),
            "step_holds": (client, 2, ((5, 6),), proof_of(hasher, node.pairs_at(2), ("behind", ((5, 6),)))),
            "second_client": (client,), "ask_witness": (client, node.answers(), 2, 200),
            "log_item": (hasher, 5, self.block.header),
            "compare": (hasher, log.checkpoint(2), log.checkpoint(4), log.growth(2, 4)),
            "split_paper": (log, self.other, 4, 3),
            "split_holds": (hasher, log.checkpoint(4), self.other.checkpoint(3), split_paper(log, self.other, 4, 3)),
            "judge_follower": (log, [log.checkpoint(0), self.other.checkpoint(3)], [self.other.growth(0, 3)]),
            "shown_break": (log, 4, 2, self.block.header, log.proof(4, 2)), "saved_client": (client,),
            "saved_node": (node,), "loaded_client": (saved_client(client),), "loaded_node": (saved_node(node),),
            "transfer_fault": (self.pairs, (1, 2, 3)), "moved": (self.pairs, (1, 2, 3)),
            "run_transfers": (self.pairs, self.transfers), "transfer_item": (hasher, (1, 2, 3)),
            "made_body": (hasher, self.pairs, self.transfers), "meta_of": (hasher, 5, self.body),
            "body_fault": (hasher, self.after, self.body), "account_proof": (hasher, self.after, self.pairs, 1),
            "account_check": (hasher, 5, 1, list(account_proof(hasher, self.after, self.pairs, 1))),
            "fraud_of": (hasher, self.pairs, self.before, self.wrong_after, self.wrong),
            "fraud_holds": (hasher, *meta_roots, self.paper),
            "fraud_break": (hasher, self.pairs, self.before, self.after, self.body, self.paper),
            "alarm": (client, 1, self.paper),
        }

    def test_functions(self):
        calls, names = self.calls(), {name: module for module, names in FUNCTIONS.items() for name in names}
        self.assertEqual(set(calls), set(names))
        for name, arguments in calls.items():
            function = getattr(importlib.import_module(names[name]), name)
            self.check(name, function, arguments)

    def check(self, name, function, arguments):
        kept = shape(arguments)
        first = function(*arguments)
        self.assertEqual(shape(arguments), kept, name)
        copied = copy.deepcopy(first)
        if isinstance(first, (list, dict)):
            first.clear()
        elif isinstance(first, tuple):
            for part in first:
                if isinstance(part, (list, dict)):
                    part.clear()
        self.assertEqual(shape(arguments), kept, name)
        self.assertEqual(shape(function(*arguments)), shape(copied), name)

    def test_methods_that_tell_something(self):
        header, reader = self.block.header, Numbers([1, 2, 3])
        for holder, name, arguments in (
                (self.hasher, "digest", (5, [1, 2])), (self.hasher, "is_digest", (5,)), (header, "fields", ()),
                (self.team[0], "sign", (1, 5)), (self.team[0], "word", (1, 0, 5)), (self.node, "height", ()),
                (self.node, "block", (1,)), (self.node, "pairs_at", (1,)), (self.node, "answers", ()),
                (self.node, "plan", (0, 3, self.policy, 200)), (self.client, "heights", ()),
                (self.client, "block", (2,)), (self.client, "reach", (self.node.answers(), 2, 200)),
                (self.client, "follow", (self.node.answers(), [0, 2], 200)), (self.log, "copy", ()),
                (self.log, "checkpoint", (2,)), (self.log, "growth", (1, 3)), (self.log, "proof", (3, 1)),
                (self.follower, "checkpoint", ()), (self.follower, "shows", (0, header, ()))):
            self.check(name, getattr(holder, name), arguments)
        self.assertEqual(reader.one(), 1)

    def test_methods_that_do_something(self):
        answers, heights, changes, following = self.node.answers(), [1, 3], {5: 6}, list(self.members)
        header, numbers = self.block.header, [1, 2, 3]
        arguments = (answers, heights, changes, following, self.team, header, numbers)
        kept = shape(arguments)
        self.client.reach(answers, 3, 200)
        self.client.follow(answers, heights, 200)
        self.node.grow(500, changes, following, self.team)
        self.log.add(header)
        checkpoint, proof = self.log.checkpoint(4), self.log.growth(2, 4)
        self.assertIs(self.follower.advance(checkpoint, proof), True)
        reader = Numbers(numbers)
        reader.row()
        reader.some(1)
        self.assertEqual(shape(arguments), kept)

    def test_objects_take_what_is_passed_as_it_is(self):
        members, votes, transfers, roots = list(self.members), list(self.block.votes), [(1, 2, 3)], [5, 6]
        block, body, pairs = Block(self.block.header, members, members, votes), Body(transfers, roots), {5: 50}
        node = Node(self.hasher, 3, 100, members, members, pairs)
        kept = (block.members, block.votes, body.transfers, body.roots, node.pairs_at(0), node.block(0).members)
        for row in (members, votes, transfers, roots):
            row.append(row[0])
        pairs[7] = 70
        self.assertEqual(kept, (
            block.members, block.votes, body.transfers, body.roots, node.pairs_at(0), node.block(0).members))
        self.assertEqual((len(block.members), len(block.votes), len(body.roots)), (3, 3, 2))

    def test_all_classes_are_there(self):
        self.assertEqual({name for names in CLASSES.values() for name in names}, {
            "OffingError", "BadNumbers", "BadBlock", "Hasher", "Numbers", "Signer", "Header", "Block", "Node", "Policy",
            "Client", "Log", "Follower", "Body"})
