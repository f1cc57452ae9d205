"""Accounts, transfers, and what a state tells of them (chapter 16)."""

from offing.hashing import are_digests
from offing.lists import list_root
from offing.maps import changed_map, is_key, map_check, map_proof, map_root

TRANSFER_TAG = 12

# The keys of what a state tells of a body.
ACCOUNTS_KEY = 1
ITEMS_KEY = 2
COUNT_KEY = 3
ROOTS_KEY = 4
META_KEYS = (1, 2, 3, 4)


class Body:
    """Transfers, and the roots of the accounts before the first one and behind each."""

    def __init__(self, transfers, roots):
        self.transfers = tuple(transfers)
        self.roots = tuple(roots)

    def __eq__(self, other):
        return isinstance(other, Body) and self.transfers == other.transfers and self.roots == other.roots


def plain_fault(transfer):
    """Return the first fault that a transfer has whatever the accounts are, or None."""
    sender, receiver, amount = transfer
    if not is_key(sender) or not is_key(receiver):
        return "key"
    if sender == receiver:
        return "same"
    if amount < 1:
        return "amount"
    return None


def transfer_fault(pairs, transfer):
    """Return the first fault of a transfer, or None."""
    fault = plain_fault(transfer)
    if fault is None and pairs.get(transfer[0], 0) < transfer[2]:
        fault = "balance"
    return fault


def kept_balance(balance):
    """Return the value that accounts have for a balance: None if nothing is left."""
    return balance if balance > 0 else None


def sent(pairs, transfer):
    """Return the accounts behind the sender's part of a transfer without a fault, a new dict."""
    sender, _, amount = transfer
    return changed_map(pairs, [(sender, kept_balance(pairs[sender] - amount))])


def moved(pairs, transfer):
    """Return the accounts behind a transfer without a fault, a new dict."""
    _, receiver, amount = transfer
    return changed_map(sent(pairs, transfer), [(receiver, pairs.get(receiver, 0) + amount)])


def run_transfers(pairs, transfers):
    """Return the accounts behind all transfers, or the first fault."""
    behind = dict(pairs)
    for index, transfer in enumerate(transfers):
        fault = transfer_fault(behind, transfer)
        if fault is not None:
            return ("fault", index, fault)
        behind = moved(behind, transfer)
    # By ascending keys, as the example of the document tells them.
    return ("done", {key: behind[key] for key in sorted(list(behind))})


def transfer_item(hasher, transfer):
    """Return the item of a transfer."""
    return hasher.digest(TRANSFER_TAG, transfer)


def items_of(hasher, transfers):
    """Return the list of the items of transfers."""
    return [transfer_item(hasher, transfer) for transfer in transfers]


def made_body(hasher, pairs, transfers):
    """Return the body of transfers none of which has a fault."""
    behind = pairs
    roots = [map_root(hasher, behind)]
    for transfer in transfers:
        behind = moved(behind, transfer)
        roots.append(map_root(hasher, behind))
    return Body(transfers, roots)


def meta_of(hasher, root, body):
    """Return the map that tells of a body, with a root of the accounts."""
    return {
        ACCOUNTS_KEY: root,
        ITEMS_KEY: list_root(hasher, items_of(hasher, body.transfers)),
        COUNT_KEY: len(body.transfers),
        ROOTS_KEY: list_root(hasher, body.roots),
    }


def body_fault(hasher, meta, body):
    """Return the first fault of a body against the map that tells of one, or None."""
    if sorted(list(meta)) != list(META_KEYS):
        return "keys"
    if any([number < 0 for transfer in body.transfers for number in transfer]):
        return "transfers"
    if meta[COUNT_KEY] != len(body.transfers):
        return "transfers"
    if meta[ITEMS_KEY] != list_root(hasher, items_of(hasher, body.transfers)):
        return "transfers"
    if not are_digests(hasher, body.roots) or len(body.roots) != len(body.transfers) + 1:
        return "roots"
    if meta[ROOTS_KEY] != list_root(hasher, body.roots):
        return "roots"
    return None


def account_proof(hasher, meta, pairs, key):
    """Return the proof of a balance."""
    root_proof = map_proof(hasher, meta, ACCOUNTS_KEY)
    return (len(root_proof), *root_proof, *map_proof(hasher, pairs, key))


def account_check(hasher, state, key, proof):
    """Return the balance that a proof shows for a state, otherwise None."""
    if len(proof) == 0 or not 0 <= proof[0] < len(proof):
        return None
    end = 1 + proof[0]
    root = shown_value(hasher, state, ACCOUNTS_KEY, proof[1:end])
    if root is None:
        return None
    told = map_check(hasher, root, key, proof[end:])
    if told == ("absent",):
        return 0
    if told is None or told[1] < 1:
        return None
    return told[1]


def shown_value(hasher, root, key, proof):
    """Return the value that an accepted proof shows for a key, otherwise None."""
    shown = map_check(hasher, root, key, proof)
    return shown[1] if shown is not None and len(shown) == 2 else None
