"""Validators: members with weights, and which of them have signed (chapter 06)."""

from offing.signing import verify

MEMBERS_TAG = 9

MOST_MEMBERS = 64
GREATEST_WEIGHT = 1000000


def members_fault(members):
    """Return the word of the first fault of members, or None if they are in order."""
    if not 1 <= len(members) <= MOST_MEMBERS:
        return "count"
    before = -1
    for public, weight in members:
        if public <= before:
            return "order"
        before = public
    if not all([1 <= weight <= GREATEST_WEIGHT for public, weight in members]):
        return "weight"
    return None


def members_numbers(members):
    """Return the list of the numbers of which the root of members is the digest."""
    numbers = [len(members)]
    for public, weight in members:
        numbers.extend([public, weight])
    return numbers


def members_root(hasher, members):
    """Return the root of members."""
    return hasher.digest(MEMBERS_TAG, members_numbers(members))


def total(members):
    """Return the weight of all members."""
    return sum([weight for public, weight in members])


def weight_of(members, publics):
    """Return the weight of the members whose publics are in a list or tuple."""
    return sum([weight for public, weight in members if public in publics])


def more_than(members, publics, parts, whole):
    """Tell whether some publics have more than so many parts of the whole of members."""
    return weight_of(members, publics) * whole > total(members) * parts


def signers(hasher, message, members, votes):
    """Return the ascending tuple of the publics of the members who have signed a message."""
    is_member = {public: True for public, weight in members}
    has_signed = {}
    for public, signature in votes:
        # A check of a signature is long, so it is made only where it can count.
        if public in is_member and public not in has_signed:
            if verify(hasher, public, message, signature):
                has_signed[public] = True
    return tuple(sorted(list(has_signed)))
