"""Digests of a chosen width, and collisions of them (chapter 01)."""

LIMB_BITS = 32
LIMB_MASK = (1 << 32) - 1
WORD_MASK = (1 << 64) - 1
MIX_BITS = 128
GREATEST_TAG = 15
LEAST_WIDTH = 4
GREATEST_WIDTH = 128

FIRST_START = 7263541890216354987
SECOND_START = 12985647301928374651
FIRST_FACTOR = 15241578750190521011
SECOND_FACTOR = 9764318250173649287
FIRST_SHIFT = 31
SECOND_SHIFT = 29


class Hasher:
    """Makes digests of one width of tags and numbers."""

    def __init__(self, width):
        self.width = width

    def digest(self, tag, numbers):
        """Return the digest of a tag and a list or tuple of numbers."""
        mix = mixed([tag, *limbs_of(numbers), self.width, self.width])
        # Callers may go beyond the greatest width, and no shift may be negative.
        return mix >> max(0, MIX_BITS - self.width)

    def is_digest(self, number):
        """Tell whether an integer is one of the digests of this width."""
        return 0 <= number < 1 << self.width


def are_digests(hasher, numbers):
    """Tell whether all of a list or tuple of integers are digests."""
    return all([hasher.is_digest(number) for number in numbers])


def limbs_of(numbers):
    """Return the limbs of a list or tuple of numbers."""
    limbs = [len(numbers)]
    for number in numbers:
        # Counting the bits first ends for a negative number, too.
        many = (number.bit_length() + LIMB_BITS - 1) // LIMB_BITS
        limbs.append(many)
        for place in range(many):
            limbs.append((number >> (place * LIMB_BITS)) & LIMB_MASK)
    return limbs


def mixed(limbs):
    """Return the 128 bits into which two words are mixed by limbs."""
    first = FIRST_START
    second = SECOND_START
    for limb in limbs:
        first = ((first ^ limb) * FIRST_FACTOR) & WORD_MASK
        first = first ^ (first >> FIRST_SHIFT)
        second = ((first + second) * SECOND_FACTOR) & WORD_MASK
        second = second ^ (second >> SECOND_SHIFT)
        first = (first + second) & WORD_MASK
    return (first << 64) | second


def collision(first, second):
    """Return the collision of two pairs of a tag and numbers."""
    return ("collision", (first[0], tuple(first[1])), (second[0], tuple(second[1])))


def is_collision(hasher, answer):
    """Tell whether an answer is a collision: two different inputs of one digest."""
    if answer is None or answer[0] != "collision":
        return False
    first, second = answer[1:]
    if first == second or not is_input(first) or not is_input(second):
        return False
    return hasher.digest(first[0], first[1]) == hasher.digest(second[0], second[1])


def is_input(pair):
    """Tell whether a digest is made of a pair of a tag and numbers."""
    tag, numbers = pair
    return 0 <= tag <= GREATEST_TAG and all([number >= 0 for number in numbers])


def first_collision(own_inputs, told_inputs):
    """Return the collision of the first inputs in which two rows differ, or None.

    In both rows each input but the first has a digest that is told by those before it, so the
    first ones that differ have one digest if the first of both rows have one.
    """
    for own, told in zip(own_inputs, told_inputs):
        if own != told:
            return collision(own, told)
    return None
