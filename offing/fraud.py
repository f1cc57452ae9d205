"""Papers that show a wrong state of accounts to whoever knows headers alone (chapter 17)."""

from offing.hashing import collision
from offing.ledger import ACCOUNTS_KEY, META_KEYS, TRANSFER_TAG, items_of, kept_balance, moved, plain_fault
from offing.ledger import run_transfers, sent, shown_value, transfer_fault, transfer_item
from offing.lists import list_break, list_check, list_proof
from offing.maps import first_map_break, map_break, map_changed, map_check, map_proof, map_root
from offing.shapes import are_rows, begins_with_word, is_natural, is_number, is_row, is_told_item, is_tuple_of

# The keys whose proofs papers have: of the accounts, the number of transfers and the roots ..
EDGE_KEYS = (1, 3, 4)
# .. and of the transfers, their number and the roots.
STEP_KEYS = (2, 3, 4)


def fraud_of(hasher, pairs, before, after, body):
    """Return a paper of the first thing that is wrong in a state, or None."""
    paper = keys_paper(hasher, before, after)
    if paper is None and body.roots[0] != before[ACCOUNTS_KEY]:
        paper = edge_paper(hasher, "start", (before, after, after), body, 0)
    if paper is None:
        paper = step_paper(hasher, pairs, after, body)
    if paper is None and body.roots[-1] != after[ACCOUNTS_KEY]:
        paper = edge_paper(hasher, "end", (after, after, after), body, len(body.transfers))
    return paper


def keys_paper(hasher, before, after):
    """Return the paper of the first key that a meta map lacks, or None."""
    for place, meta in enumerate((before, after)):
        for key in META_KEYS:
            if key not in meta:
                return ("keys", place, key, map_proof(hasher, meta, key))
    return None


def edge_paper(hasher, word, metas, body, place):
    """Return the paper of the first or the last root."""
    return (word, key_proofs(hasher, metas, EDGE_KEYS), shown_item(hasher, body.roots, place))


def step_paper(hasher, pairs, after, body):
    """Return the paper of the first step that is wrong, or None."""
    behind = pairs
    for place, transfer in enumerate(body.transfers):
        fault = transfer_fault(behind, transfer)
        if fault is not None or map_root(hasher, moved(behind, transfer)) != body.roots[place + 1]:
            proofs = key_proofs(hasher, (after, after, after), STEP_KEYS)
            proof = list_proof(hasher, items_of(hasher, body.transfers), place)
            roots = (shown_item(hasher, body.roots, place), shown_item(hasher, body.roots, place + 1))
            accounts = account_proofs(hasher, behind, transfer, fault)
            return ("step", place, transfer, proofs, proof, roots, accounts)
        behind = moved(behind, transfer)
    return None


def key_proofs(hasher, metas, keys):
    """Return the tuple of the proofs of keys, each in a meta map of its own."""
    return tuple([map_proof(hasher, meta, key) for meta, key in zip(metas, keys)])


def shown_item(hasher, items, place):
    """Return the pair of an item of a list and its proof."""
    return (items[place], list_proof(hasher, items, place))


def account_proofs(hasher, pairs, transfer, fault):
    """Return the pair of the proofs of the accounts that a transfer with this fault hangs on, () for each other."""
    sender, receiver, _ = transfer
    if fault is None:
        return (map_proof(hasher, pairs, sender), map_proof(hasher, sent(pairs, transfer), receiver))
    if fault == "balance":
        return (map_proof(hasher, pairs, sender), ())
    return ((), ())


def shown_values(hasher, roots, keys, proofs):
    """Return the list of the values that proofs show for keys, None for each that is not shown."""
    return [shown_value(hasher, root, key, proof) for root, key, proof in zip(roots, keys, proofs)]


def keys_paper_holds(hasher, before, after, parts):
    """Tell whether parts of a paper show that a meta map lacks a key."""
    if len(parts) != 3 or not is_number(parts[0]) or not is_number(parts[1]) or not is_row(parts[2]):
        return False
    place, key, proof = parts
    if not 0 <= place <= 1 or key not in META_KEYS:
        return False
    return map_check(hasher, after if place == 1 else before, key, proof) == ("absent",)


def start_paper_holds(hasher, before, after, parts):
    """Tell whether parts of a paper show that the first root is wrong."""
    return edge_paper_holds(hasher, (before, after, after), parts, False)


def end_paper_holds(hasher, before, after, parts):
    """Tell whether parts of a paper show that the last root is wrong."""
    return edge_paper_holds(hasher, (after, after, after), parts, True)


def edge_paper_holds(hasher, meta_roots, parts, is_last):
    """Tell whether parts of a paper show that the first or the last root is not that of the accounts."""
    if len(parts) != 2 or not are_rows(parts[0], len(EDGE_KEYS)) or not is_told_item(parts[1]):
        return False
    proofs, (item, proof) = parts
    values = shown_values(hasher, meta_roots, EDGE_KEYS, proofs)
    if None in values:
        return False
    accounts, many, roots = values
    place = many if is_last else 0
    return item != accounts and list_check(hasher, roots, many + 1, place, item, proof)


def step_paper_holds(hasher, before, after, parts):
    """Tell whether parts of a paper show that a step is wrong; the state before plays no part."""
    if not has_step_shape(parts):
        return False
    place, transfer, proofs, proof, roots, accounts = parts
    values = shown_values(hasher, (after, after, after), STEP_KEYS, proofs)
    if None in values:
        return False
    items_root, many, roots_root = values
    if not list_check(hasher, items_root, many, place, transfer_item(hasher, transfer), proof):
        return False
    for at, (root, root_proof) in enumerate(roots):
        if not list_check(hasher, roots_root, many + 1, place + at, root, root_proof):
            return False
    return is_wrong(hasher, transfer, roots[0][0], roots[1][0], accounts)


def has_step_shape(parts):
    """Tell whether parts of a paper are built as those of a step are."""
    if len(parts) != 6:
        return False
    place, transfer, proofs, proof, roots, accounts = parts
    if not is_number(place) or not is_tuple_of(transfer, 3) or not all([is_natural(number) for number in transfer]):
        return False
    if not are_rows(proofs, len(STEP_KEYS)) or not is_row(proof) or not are_rows(accounts, 2):
        return False
    return is_tuple_of(roots, 2) and all([is_told_item(one) for one in roots])


def is_wrong(hasher, transfer, root, root_behind, accounts):
    """Tell whether proofs of accounts show that a transfer does not lead from a root to another one."""
    if plain_fault(transfer) is not None:
        return True
    sender, receiver, amount = transfer
    sender_proof, receiver_proof = accounts
    balance = shown_balance(hasher, root, sender, sender_proof)
    if balance is None or balance < amount:
        return balance is not None
    between = map_changed(hasher, root, sender, kept_balance(balance - amount), sender_proof)
    other = shown_balance(hasher, between, receiver, receiver_proof)
    if other is None:
        return False
    return map_changed(hasher, between, receiver, other + amount, receiver_proof) != root_behind


def shown_balance(hasher, root, key, proof):
    """Return the balance that a proof shows for a root of accounts, or None."""
    if map_check(hasher, root, key, proof) == ("absent",):
        return 0
    return shown_value(hasher, root, key, proof)


HOLDS = {"keys": keys_paper_holds, "start": start_paper_holds, "end": end_paper_holds, "step": step_paper_holds}


def fraud_holds(hasher, before, after, paper):
    """Tell whether a paper shows, for the roots of both meta maps, that the state after is wrong."""
    if not begins_with_word(paper) or paper[0] not in HOLDS:
        return False
    holds = HOLDS[paper[0]]
    return holds(hasher, before, after, paper[1:])


def fraud_break(hasher, pairs, before, after, body, paper):
    """Return the collision in a paper that holds although the state after is right, otherwise None."""
    if not fraud_holds(hasher, map_root(hasher, before), map_root(hasher, after), paper):
        return None
    word = paper[0]
    if word == "keys":
        _, place, key, proof = paper
        return map_break(hasher, after if place == 1 else before, key, proof)
    if word == "start":
        return edge_break(hasher, (before, after, after), body, paper, 0)
    if word == "end":
        return edge_break(hasher, (after, after, after), body, paper, len(body.transfers))
    return step_break(hasher, pairs, after, body, paper)


def edge_break(hasher, metas, body, paper, place):
    """Return the collision of the first proof that is not the true one in a paper of the first or the last root."""
    _, proofs, (item, proof) = paper
    found = first_map_break(hasher, metas, EDGE_KEYS, proofs)
    if found is None:
        found = list_break(hasher, body.roots, place, item, proof)
    return found


def step_break(hasher, pairs, after, body, paper):
    """Return the collision of the first thing that is not the true one in a paper of a step."""
    _, place, transfer, proofs, proof, roots, accounts = paper
    found = first_map_break(hasher, (after, after, after), STEP_KEYS, proofs)
    if found is None:
        found = transfer_break(hasher, body.transfers, place, transfer, proof)
    for at, (root, root_proof) in enumerate(roots):
        if found is None:
            found = list_break(hasher, body.roots, place + at, root, root_proof)
    if found is None:
        _, behind = run_transfers(pairs, body.transfers[:place])
        found = first_map_break(hasher, (behind, sent(behind, transfer)), transfer[:2], accounts)
    return found


def transfer_break(hasher, transfers, place, transfer, proof):
    """Return the collision of the proof of a transfer, or of the transfer, that is not the true one; otherwise None."""
    found = list_break(hasher, items_of(hasher, transfers), place, transfer_item(hasher, transfer), proof)
    if found is None and transfer != transfers[place]:
        found = collision((TRANSFER_TAG, transfers[place]), (TRANSFER_TAG, transfer))
    return found


def alarm(client, height, paper):
    """Halt a client by a paper that holds for the states of two neighbouring trusted heights; tell whether it does."""
    before = client.block(height)
    after = client.block(height + 1)
    if before is None or after is None:
        return False
    if not fraud_holds(client.hasher, before.header.state, after.header.state, paper):
        return False
    client.halted = True
    return True
