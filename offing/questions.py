"""Questions to a state, their answers, and proofs of these (chapter 12)."""

from offing.maps import changed_map, first_map_break, is_key, map_break, map_changed, map_check, map_proof, map_root
from offing.maps import range_break, range_check, range_proof
from offing.shapes import begins_with_word, is_natural, is_number, is_row, is_tuple_of

LAST_KEY = (1 << 32) - 1
MOST_PARTS = 16


def is_one_key(value):
    """Tell whether a value is a key."""
    return is_number(value) and is_key(value)


def is_some(value):
    """Tell whether a value is a tuple of as many things as a question may have."""
    return isinstance(value, tuple) and 1 <= len(value) <= MOST_PARTS


def is_change(value):
    """Tell whether a value is a pair of a key and a value or None."""
    return is_tuple_of(value, 2) and is_one_key(value[0]) and (value[1] is None or is_natural(value[1]))


def asks_key(parts):
    """Tell whether parts are what stands behind the word of a question for a key, or of one for the next entry."""
    return len(parts) == 1 and is_one_key(parts[0])


def asks_keys(parts):
    """Tell whether parts are what stands behind the word of a question for keys."""
    if len(parts) != 1 or not is_some(parts[0]) or not all([is_one_key(key) for key in parts[0]]):
        return False
    keys = parts[0]
    return all([before < key for before, key in zip(keys, keys[1:])])


def asks_range(parts):
    """Tell whether parts are what stands behind the word of a question for a range."""
    return len(parts) == 2 and is_one_key(parts[0]) and is_one_key(parts[1]) and parts[0] <= parts[1]


def asks_behind(parts):
    """Tell whether parts are what stands behind the word of a question for the root behind changes."""
    return len(parts) == 1 and is_some(parts[0]) and all([is_change(change) for change in parts[0]])


ASKED = {"key": asks_key, "keys": asks_keys, "range": asks_range, "next": asks_key, "behind": asks_behind}


def is_question(value):
    """Tell whether a value is a question."""
    if not begins_with_word(value) or value[0] not in ASKED:
        return False
    asks = ASKED[value[0]]
    return asks(value[1:])


def value_answer(pairs, key):
    """Return the answer that a map has for a key."""
    return ("value", pairs[key]) if key in pairs else ("absent",)


def entries_within(pairs, low, high):
    """Return the ascending tuple of the entries of a map from one key to another one."""
    return tuple(sorted([(key, value) for key, value in pairs.items() if low <= key <= high]))


def plain_answer(hasher, pairs, question):
    """Return the answer of a map."""
    word = question[0]
    if word == "key":
        return value_answer(pairs, question[1])
    if word == "keys":
        return ("all", tuple([value_answer(pairs, key) for key in question[1]]))
    if word == "range":
        return ("entries", entries_within(pairs, question[1], question[2]))
    if word == "behind":
        return ("root", map_root(hasher, changed_map(pairs, question[1])))
    entries = entries_within(pairs, question[1], LAST_KEY)
    return ("entry", *entries[0]) if entries else ("none",)


def proof_of(hasher, pairs, question):
    """Return the proof of the answer of a map."""
    word = question[0]
    if word == "key":
        return map_proof(hasher, pairs, question[1])
    if word == "keys":
        return tuple([map_proof(hasher, pairs, key) for key in question[1]])
    if word == "range":
        return range_proof(hasher, pairs, question[1], question[2])
    if word == "behind":
        states = states_of(pairs, question[1])
        return tuple([map_proof(hasher, state, change[0]) for state, change in zip(states, question[1])])
    entries = entries_within(pairs, question[1], LAST_KEY)
    end = entries[0][0] if entries else LAST_KEY
    return (end, range_proof(hasher, pairs, question[1], end))


def states_of(pairs, changes):
    """Return the list of the maps before each of some changes."""
    return [changed_map(pairs, changes[:many]) for many in range(len(changes))]


def shown_key(hasher, root, parts, proof):
    """Return the answer that a proof shows to a question for a key, or None."""
    return map_check(hasher, root, parts[0], proof) if is_row(proof) else None


def shown_keys(hasher, root, parts, proof):
    """Return the answer that proofs show to a question for keys, or None."""
    keys = parts[0]
    if not is_tuple_of(proof, len(keys)):
        return None
    answers = [shown_key(hasher, root, (key,), one) for key, one in zip(keys, proof)]
    return None if None in answers else ("all", tuple(answers))


def shown_range(hasher, root, parts, proof):
    """Return the answer that a proof shows to a question for a range, or None."""
    low, high = parts
    found = range_check(hasher, root, low, high, proof) if is_row(proof) else None
    return None if found is None else ("entries", entries_within(found, low, high))


def shown_next(hasher, root, parts, proof):
    """Return the answer that a proof shows to a question for the next entry, or None."""
    low = parts[0]
    if not is_tuple_of(proof, 2) or not is_one_key(proof[0]) or proof[0] < low:
        return None
    end, told = proof
    found = shown_range(hasher, root, (low, end), told)
    if found == ("entries", ()) and end == LAST_KEY:
        return ("none",)
    if found is None or len(found[1]) != 1 or found[1][0][0] != end:
        return None
    return ("entry", *found[1][0])


def shown_behind(hasher, root, parts, proof):
    """Return the answer that proofs show to a question for the root behind changes, or None."""
    changes = parts[0]
    if not is_tuple_of(proof, len(changes)) or not all([is_row(one) for one in proof]):
        return None
    for change, one in zip(changes, proof):
        root = map_changed(hasher, root, change[0], change[1], one)
        if root is None:
            return None
    return ("root", root)


SHOWN = {
    "key": shown_key, "keys": shown_keys, "range": shown_range, "next": shown_next, "behind": shown_behind}


def answer_of(hasher, root, question, proof):
    """Return the answer that an accepted proof shows, otherwise None."""
    if not is_question(question):
        return None
    shown = SHOWN[question[0]]
    return shown(hasher, root, question[1:], proof)


def answer_break(hasher, pairs, question, proof):
    """Return the collision in an accepted proof that shows another answer than that of a map, otherwise None."""
    shown = answer_of(hasher, map_root(hasher, pairs), question, proof)
    if shown is None or shown == plain_answer(hasher, pairs, question):
        return None
    word = question[0]
    if word == "key":
        return map_break(hasher, pairs, question[1], proof)
    if word == "keys":
        return first_map_break(hasher, [pairs] * len(proof), question[1], proof)
    if word == "range":
        return range_break(hasher, pairs, question[1], question[2], proof)
    if word == "behind":
        keys = [change[0] for change in question[1]]
        return first_map_break(hasher, states_of(pairs, question[1]), keys, proof)
    end, told = proof
    return range_break(hasher, pairs, question[1], end, told)


def ask(client, height, question, proof):
    """Return the answer that a proof shows for the state of a trusted height, otherwise None."""
    block = client.block(height)
    if block is None:
        return None
    return answer_of(client.hasher, block.header.state, question, proof)


def step_holds(client, height, changes, proof):
    """Tell whether a proof shows that changes lead from the state of a trusted height to that of the next one."""
    behind = client.block(height + 1)
    if behind is None:
        return False
    return ask(client, height, ("behind", changes), proof) == ("root", behind.header.state)
