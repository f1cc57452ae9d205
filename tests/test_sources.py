"""Checks what every file of the package must keep to: sizes, characters, imports, and where names are defined."""

import ast
import importlib
import inspect
import pathlib
import unittest

PACKAGE = pathlib.Path(__file__).resolve().parent.parent / "offing"
LIBRARY = ("heapq", "math", "itertools", "collections")
FUNCTIONS = {
    "offing.hashing": {"collision": "first second", "is_collision": "hasher answer"},
    "offing.signing": {
        "digits_of": "width message", "verify": "hasher public message signature",
        "signing_break": "signer signed message signature"},
    "offing.numbers": {
        "numbers_of_row": "row", "numbers_of_members": "members", "numbers_of_votes": "votes",
        "numbers_of_block": "block", "row_of": "numbers", "block_of": "numbers"},
    "offing.lists": {
        "list_root": "hasher items", "list_proof": "hasher items k", "growth_proof": "hasher items old",
        "list_check": "hasher root count k item proof", "growth_check": "hasher old_root old root count proof",
        "list_break": "hasher items k item proof", "growth_break": "hasher items old_root old proof"},
    "offing.validators": {
        "members_fault": "members", "members_root": "hasher members", "members_numbers": "members",
        "total": "members", "weight_of": "members publics", "more_than": "members publics parts whole",
        "signers": "hasher message members votes"},
    "offing.headers": {
        "header_digest": "hasher header", "vote_message": "hasher header", "block_signers": "hasher block",
        "lists_fault": "hasher block", "block_fault": "hasher chain block", "follows_fault": "hasher old new"},
    "offing.maps": {
        "map_root": "hasher pairs", "map_proof": "hasher pairs key", "range_proof": "hasher pairs low high",
        "map_check": "hasher root key proof", "range_check": "hasher root low high proof",
        "map_changed": "hasher root key value proof", "map_break": "hasher pairs key proof",
        "range_break": "hasher pairs low high proof"},
    "offing.trust": {"step_fault": "hasher policy trusted block now"},
    "offing.evidence": {
        "judge_step": "node start block", "judge_steps": "node steps", "verdict_holds": "node verdict",
        "double_signers": "hasher first second"},
    "offing.questions": {
        "is_question": "value", "plain_answer": "hasher pairs question", "proof_of": "hasher pairs question",
        "answer_of": "hasher root question proof", "answer_break": "hasher pairs question proof",
        "ask": "client height question proof", "step_holds": "client height changes proof"},
    "offing.witnesses": {"ask_witness": "client answers height now", "second_client": "client"},
    "offing.checkpoints": {
        "log_item": "hasher height header", "compare": "hasher first second proof",
        "split_paper": "first second size_first size_second", "split_holds": "hasher first second paper",
        "judge_follower": "log taken proofs", "shown_break": "log size height header proof"},
    "offing.saving": {
        "saved_client": "client", "saved_node": "node", "loaded_client": "numbers", "loaded_node": "numbers"},
    "offing.ledger": {
        "transfer_fault": "pairs transfer", "moved": "pairs transfer", "run_transfers": "pairs transfers",
        "transfer_item": "hasher transfer", "made_body": "hasher pairs transfers", "meta_of": "hasher root body",
        "body_fault": "hasher meta body", "account_proof": "hasher meta pairs key",
        "account_check": "hasher state key proof"},
    "offing.fraud": {
        "fraud_of": "hasher pairs before after body", "fraud_holds": "hasher before after paper",
        "fraud_break": "hasher pairs before after body paper", "alarm": "client height paper"},
}
CLASSES = {
    "offing.errors": {
        "OffingError": {}, "BadNumbers": {"__init__": "self why"}, "BadBlock": {"__init__": "self fault"}},
    "offing.hashing": {
        "Hasher": {"__init__": "self width", "digest": "self tag numbers", "is_digest": "self number"}},
    "offing.signing": {
        "Signer": {
            "__init__": "self hasher secret levels", "sign": "self index message",
            "word": "self index chain step"}},
    "offing.numbers": {
        "Numbers": {
            "__init__": "self numbers", "row": "self", "members": "self", "votes": "self", "block": "self",
            "one": "self", "some": "self count", "count": "self size", "close": "self"}},
    "offing.headers": {
        "Header": {
            "__init__": "self chain height time previous state members following", "__eq__": "self other",
            "fields": "self"},
        "Block": {"__init__": "self header members following votes", "__eq__": "self other"}},
    "offing.node": {
        "Node": {
            "__init__": "self hasher chain time members following pairs",
            "grow": "self time changes following signers", "height": "self", "block": "self height",
            "pairs_at": "self height", "answers": "self", "plan": "self start height policy now"}},
    "offing.trust": {"Policy": {"__init__": "self period drift", "__eq__": "self other"}},
    "offing.client": {
        "Client": {
            "__init__": "self hasher policy block", "heights": "self", "block": "self height",
            "reach": "self answers height now", "follow": "self answers heights now"}},
    "offing.checkpoints": {
        "Log": {
            "__init__": "self hasher", "add": "self header", "copy": "self", "checkpoint": "self size",
            "growth": "self old size", "proof": "self size k"},
        "Follower": {
            "__init__": "self hasher", "checkpoint": "self", "advance": "self checkpoint proof",
            "shows": "self height header proof"}},
    "offing.ledger": {"Body": {"__init__": "self transfers roots", "__eq__": "self other"}},
}


def parameters(function):
    return " ".join(inspect.signature(function).parameters)


class Sources(unittest.TestCase):
    def files(self):
        found = sorted(path for path in PACKAGE.rglob("*") if path.is_file() and path.suffix != ".pyc")
        self.assertIn(PACKAGE / "__init__.py", found)
        return found

    def test_files_and_lines(self):
        for path in self.files():
            self.assertRegex(str(path.relative_to(PACKAGE)), r"^[a-z0-9_/]+\.py$")
            text = path.read_text("ascii")
            lines = text.split("\n")
            self.assertLessEqual(len(lines), 399, path)
            for at, line in enumerate(lines, 1):
                self.assertLessEqual(len(line), 120, (path, at))
                self.assertTrue(all(" " <= sign <= "~" for sign in line), (path, at))

    def test_functions_are_short(self):
        for path in self.files():
            for node in ast.walk(ast.parse(path.read_text())):
                if isinstance(node, ast.FunctionDef):
                    self.assertLessEqual(node.end_lineno - node.lineno + 1, 40, (path, node.name))

    def test_imports(self):
        for path in self.files():
            tree = ast.parse(path.read_text())
            for node in ast.walk(tree):
                self.assertNotIsInstance(node, ast.Import)
                if isinstance(node, ast.ImportFrom):
                    self.assertEqual(node.level, 0)
                    self.assertIn(node, tree.body)
                    self.assertTrue(node.module.startswith("offing.") or node.module in LIBRARY, (path, node.module))

    def test_integers_alone(self):
        for path in self.files():
            for node in ast.walk(ast.parse(path.read_text())):
                self.assertNotIsInstance(node, ast.Div, path)
                if isinstance(node, ast.Constant):
                    self.assertNotIsInstance(node.value, (float, complex), path)


class Interface(unittest.TestCase):
    def test_functions_stand_in_their_files(self):
        for name, functions in FUNCTIONS.items():
            module = importlib.import_module(name)
            for function, expected in functions.items():
                found = getattr(module, function)
                self.assertEqual(found.__module__, name)
                self.assertEqual(parameters(found), expected, (name, function))

    def test_classes_and_methods_stand_in_their_files(self):
        for name, classes in CLASSES.items():
            module = importlib.import_module(name)
            for word, methods in classes.items():
                found = getattr(module, word)
                self.assertEqual(found.__module__, name)
                for method, expected in methods.items():
                    self.assertIn(method, vars(found))
                    self.assertEqual(parameters(vars(found)[method]), expected, (word, method))
