"""The rules of chapters 16 and 17 once more, written plainly and apart from the program."""

from tests import reference_lists as lists
from tests import reference_maps as maps
from tests.reference import digest
from tests.reference_questions import is_row

LAST = 2 ** 32 - 1


def early_fault(transfer):
    sender, receiver, amount = transfer
    if min(sender, receiver) < 0 or max(sender, receiver) > LAST:
        return "key"
    if sender == receiver:
        return "same"
    return "amount" if amount <= 0 else None


def fault(pairs, transfer):
    return early_fault(transfer) or ("balance" if pairs.get(transfer[0], 0) < transfer[2] else None)


def half_moved(pairs, transfer):
    balances = {**pairs, transfer[0]: pairs[transfer[0]] - transfer[2]}
    return {key: balance for key, balance in balances.items() if balance}


def moved(pairs, transfer):
    behind = half_moved(pairs, transfer)
    return {**behind, transfer[1]: behind.get(transfer[1], 0) + transfer[2]}


def run(pairs, transfers):
    for at, transfer in enumerate(transfers):
        if fault(pairs, transfer):
            return ("fault", at, fault(pairs, transfer))
        pairs = moved(pairs, transfer)
    return ("done", pairs)


def item(width, transfer):
    return digest(width, 12, list(transfer))


def items(width, transfers):
    return [item(width, transfer) for transfer in transfers]


def roots(width, pairs, transfers):
    """The roots of the accounts before the first transfer and behind each."""
    return [maps.root(width, run(pairs, transfers[:many])[1]) for many in range(len(transfers) + 1)]


def meta(width, root, transfers, told_roots):
    return {1: root, 2: lists.root(width, items(width, transfers)), 3: len(transfers),
            4: lists.root(width, list(told_roots))}


def value(width, top, key, proof):
    shown = maps.shown(width, top, key, proof)
    return shown[1] if shown and shown[0] == "value" else None


def account(width, state, key, proof):
    """The balance that any tuple shows for a state, or None."""
    if not proof or proof[0] not in range(len(proof)):
        return None
    first, second = proof[1:1 + proof[0]], proof[1 + proof[0]:]
    root = value(width, state, 1, first)
    if root is None:
        return None
    shown = maps.shown(width, root, key, second)
    if shown == ("absent",):
        return 0
    return shown[1] if shown and shown[1] > 0 else None


def paper(width, pairs, before, after, transfers, told_roots):
    """The paper of the first thing that is wrong, or None."""
    for place, one in enumerate((before, after)):
        for key in (1, 2, 3, 4):
            if key not in one:
                return ("keys", place, key, maps.proof(width, one, key))
    shown = [(root, lists.proof(width, list(told_roots), at)) for at, root in enumerate(told_roots)]
    own = [maps.proof(width, after, key) for key in (1, 2, 3, 4)]
    if told_roots[0] != before[1]:
        return ("start", (maps.proof(width, before, 1), own[2], own[3]), shown[0])
    for at, transfer in enumerate(transfers):
        word = fault(pairs, transfer)
        if word or maps.root(width, moved(pairs, transfer)) != told_roots[at + 1]:
            accounts = ((), ())
            if word == "balance":
                accounts = (maps.proof(width, pairs, transfer[0]), ())
            elif word is None:
                accounts = (maps.proof(width, pairs, transfer[0]),
                            maps.proof(width, half_moved(pairs, transfer), transfer[1]))
            proof = lists.proof(width, items(width, transfers), at)
            return ("step", at, transfer, tuple(own[1:]), proof, (shown[at], shown[at + 1]), accounts)
        pairs = moved(pairs, transfer)
    return None if told_roots[-1] == after[1] else ("end", (own[0], own[2], own[3]), shown[-1])


def is_item(told):
    return type(told) is tuple and len(told) == 2 and type(told[0]) is int and told[0] >= 0 and is_row(told[1])


def are_rows(told, many):
    return type(told) is tuple and len(told) == many and all(map(is_row, told))


def holds(width, before, after, told):
    """Whether any value is a paper that holds for two roots."""
    if type(told) is not tuple or not told:
        return False
    word, *parts = told
    shapes = {"keys": 3, "start": 2, "end": 2, "step": 6}
    if type(word) is not str or shapes.get(word) != len(parts):
        return False
    if word == "keys":
        place, key, proof = parts
        return (type(place) is int and type(key) is int and place in (0, 1) and key in (1, 2, 3, 4) and is_row(proof)
                and maps.shown(width, (before, after)[place], key, proof) == ("absent",))
    if word in ("start", "end"):
        proofs, shown = parts
        if not are_rows(proofs, 3) or not is_item(shown):
            return False
        root = value(width, before if word == "start" else after, 1, proofs[0])
        many, top = value(width, after, 3, proofs[1]), value(width, after, 4, proofs[2])
        if None in (root, many, top) or shown[0] == root:
            return False
        return lists.accepted(width, top, many + 1, 0 if word == "start" else many, *shown)
    return step_holds(width, after, *parts)


def step_holds(width, after, place, transfer, proofs, proof, told_roots, accounts):
    if type(place) is not int or not is_row(transfer) or len(transfer) != 3 or min(transfer) < 0:
        return False
    if not are_rows(proofs, 3) or not is_row(proof) or not are_rows(accounts, 2):
        return False
    if type(told_roots) is not tuple or len(told_roots) != 2 or not all(map(is_item, told_roots)):
        return False
    top, many, roots_top = [value(width, after, key, one) for key, one in zip((2, 3, 4), proofs)]
    if None in (top, many, roots_top):
        return False
    if not lists.accepted(width, top, many, place, item(width, transfer), proof):
        return False
    if not all(lists.accepted(width, roots_top, many + 1, place + at, *one) for at, one in enumerate(told_roots)):
        return False
    if early_fault(transfer):
        return True
    sender, receiver, amount = transfer
    shown = maps.shown(width, told_roots[0][0], sender, accounts[0])
    if shown is None:
        return False
    balance = (*shown, 0)[1]
    if balance < amount:
        return True
    between = maps.changed(width, sender, balance - amount or None, accounts[0])
    shown = maps.shown(width, between, receiver, accounts[1])
    if shown is None:
        return False
    return maps.changed(width, receiver, (*shown, 0)[1] + amount, accounts[1]) != told_roots[1][0]


def difference(mine, told):
    return next((("collision", one, other) for one, other in zip(mine, told) if one != other), None)


def key_break(width, pairs, key, proof):
    return difference(maps.inputs(width, key, maps.proof(width, pairs, key)), maps.inputs(width, key, proof))


def item_break(width, row, at, told, proof):
    return difference(lists.made(width, len(row), at, row[at], lists.proof(width, row, at)),
                      lists.made(width, len(row), at, told, proof))


def breaking(width, pairs, before, after, transfers, told):
    """The collision of a paper that holds against a right state."""
    word, *parts = told
    if word == "keys":
        return key_break(width, (before, after)[parts[0]], parts[1], parts[2])
    row = roots(width, pairs, transfers)
    if word != "step":
        maps_there, at = ((before, after, after), 0) if word == "start" else ((after,) * 3, len(transfers))
        for one, key, proof in zip(maps_there, (1, 3, 4), parts[0]):
            if proof != maps.proof(width, one, key):
                return key_break(width, one, key, proof)
        return item_break(width, row, at, *parts[1])
    at, transfer, proofs, proof, shown, accounts = parts
    for key, one in zip((2, 3, 4), proofs):
        if one != maps.proof(width, after, key):
            return key_break(width, after, key, one)
    found = item_break(width, items(width, transfers), at, item(width, transfer), proof)
    if found is None and transfer != transfers[at]:
        found = ("collision", (12, transfers[at]), (12, transfer))
    for more in (0, 1):
        found = found or item_break(width, row, at + more, *shown[more])
    if found:
        return found
    pairs = run(pairs, transfers[:at])[1]
    for state, key, one in zip((pairs, half_moved(pairs, transfer)), transfer, accounts):
        if one != maps.proof(width, state, key):
            return key_break(width, state, key, one)
    raise AssertionError("all is true")
