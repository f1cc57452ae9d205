"""The rules of chapter 12 once more, written plainly and apart from the program."""

from tests import reference_maps as plain

LAST = 2 ** 32 - 1

# Values that are neither questions nor proofs.
ODD = [None, 0, 5, -1, 2 ** 70, "", "key", "proof", (), ((),), (None,), ("proof",), (5, None), ((5,), "key"), True, False]


def behind(pairs, changes):
    pairs = dict(pairs)
    for key, value in changes:
        pairs[key] = value
        if value is None:
            del pairs[key]
    return pairs


def next_key(pairs, low):
    return min((key for key in pairs if key >= low), default=LAST)


def answer(width, pairs, question):
    word, *parts = question
    if word == "key":
        return ("value", pairs[parts[0]]) if parts[0] in pairs else ("absent",)
    if word == "keys":
        return ("all", tuple(answer(width, pairs, ("key", key)) for key in parts[0]))
    if word == "range":
        return ("entries", tuple((key, pairs[key]) for key in sorted(pairs) if parts[0] <= key <= parts[1]))
    if word == "next":
        key = next_key(pairs, parts[0])
        return ("entry", key, pairs[key]) if key in pairs else ("none",)
    return ("root", plain.root(width, behind(pairs, parts[0])))


def proof(width, pairs, question):
    word, *parts = question
    if word == "key":
        return plain.proof(width, pairs, parts[0])
    if word == "keys":
        return tuple(plain.proof(width, pairs, key) for key in parts[0])
    if word == "range":
        return plain.range_proof(width, pairs, *parts)
    if word == "next":
        key = next_key(pairs, parts[0])
        return (key, plain.range_proof(width, pairs, parts[0], key))
    return tuple(plain.proof(width, behind(pairs, parts[0][:at]), key) for at, (key, _) in enumerate(parts[0]))


def is_row(told):
    return type(told) is tuple and all(type(number) is int for number in told)


def are_rows(told, many):
    return type(told) is tuple and len(told) == many and all(map(is_row, told))


def shown(width, top, question, told):
    """What any value shows for a root and a question, or None."""
    word, *parts = question
    if word == "key":
        return plain.shown(width, top, parts[0], told) if is_row(told) else None
    if word == "keys":
        if not are_rows(told, len(parts[0])):
            return None
        found = tuple(plain.shown(width, top, key, one) for key, one in zip(parts[0], told))
        return None if None in found else ("all", found)
    if word == "range":
        found = plain.range_shown(width, top, *parts, told) if is_row(told) else None
        return None if found is None else ("entries", tuple(sorted(found.items())))
    if word == "next":
        return shown_next(width, top, parts[0], told)
    if not are_rows(told, len(parts[0])):
        return None
    for (key, value), one in zip(parts[0], told):
        if not plain.accepted(width, top, key, one):
            return None
        top = plain.changed(width, key, value, one)
    return ("root", top)


def shown_next(width, top, low, told):
    if type(told) is not tuple or len(told) != 2 or type(told[0]) is not int or not is_row(told[1]):
        return None
    if not low <= told[0] <= LAST:
        return None
    found = plain.range_shown(width, top, low, told[0], told[1])
    if found is not None and list(found) == [told[0]]:
        return ("entry", told[0], found[told[0]])
    return ("none",) if found == {} and told[0] == LAST else None


def proofs_of_keys(width, pairs, question, told):
    """Rows of a map, a key and its proof, in the order of the proofs; for questions of keys and changes."""
    if question[0] == "key":
        return [(pairs, question[1], told)]
    if question[0] == "keys":
        return [(pairs, key, one) for key, one in zip(question[1], told)]
    return [(behind(pairs, question[1][:at]), change[0], one)
            for at, (change, one) in enumerate(zip(question[1], told))]


def breaking(width, pairs, question, told):
    """The collision of a proof that is accepted and shows another answer than that of the map, or None."""
    if shown(width, plain.root(width, pairs), question, told) in (None, answer(width, pairs, question)):
        return None
    if question[0] in ("range", "next"):
        low, high, one = (*question[1:], told) if question[0] == "range" else (question[1], *told)
        return plain.range_difference(width, pairs, plain.range_rows(width, plain.root(width, pairs), low, high, one))
    for state, key, one in proofs_of_keys(width, pairs, question, told):
        if one != plain.proof(width, state, key):
            own, theirs = plain.inputs(width, key, plain.proof(width, state, key)), plain.inputs(width, key, one)
            return next(("collision", mine, other) for mine, other in zip(own, theirs) if mine != other)
    raise AssertionError("the proofs are all true")
