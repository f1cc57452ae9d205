"""Signatures by one-time keys, and what it takes to break them (chapter 05)."""

from offing.hashing import are_digests, collision, first_collision

STEP_TAG = 4
KEY_TAG = 5
NODE_TAG = 6
SECRET_TAG = 7

DIGIT_BITS = 4
GREATEST_DIGIT = 15
LAST_STEP = 15
GREATEST_LEVELS = 6


def digits_of(width, message):
    """Return the digits of a message, and behind them those of its check."""
    digits = base_digits(message, message_digits(width))
    check = sum([GREATEST_DIGIT - digit for digit in digits])
    return digits + base_digits(check, check_digits(width))


def base_digits(number, many):
    """Return so many digits to the base 16, the least significant one first."""
    return [(number >> (DIGIT_BITS * place)) & GREATEST_DIGIT for place in range(many)]


def message_digits(width):
    """Return how many digits a message has."""
    return (width + DIGIT_BITS - 1) // DIGIT_BITS


def check_digits(width):
    """Return how many digits the greatest possible check needs, at least one."""
    greatest = GREATEST_DIGIT * message_digits(width)
    return max(1, (greatest.bit_length() + DIGIT_BITS - 1) // DIGIT_BITS)


def chain_count(width):
    """Return how many chains a key has."""
    return message_digits(width) + check_digits(width)


def next_word(hasher, index, chain, step, word):
    """Return the word of a chain that follows its word at a step."""
    return hasher.digest(STEP_TAG, [index, chain, step, word])


def followed(hasher, index, chain, step, word, last):
    """Return the word at a last step of a chain with this word at this step."""
    for at in range(step, last):
        word = next_word(hasher, index, chain, at, word)
    return word


class Signer:
    """Signs messages, each with a one-time key that its secret gives."""

    def __init__(self, hasher, secret, levels):
        self.hasher = hasher
        self.secret = secret
        self.levels = levels
        # A digest of the tree costs all the words below it, so it is kept.
        self._nodes = {}
        self.public = hasher.digest(NODE_TAG, [levels, self._node(levels, 0)])

    def sign(self, index, message):
        """Return the signature of a message by the key with an index."""
        digits = digits_of(self.hasher.width, message)
        words = [self.word(index, chain, digit) for chain, digit in enumerate(digits)]
        beside = [self._node(level, (index >> level) ^ 1) for level in range(self.levels)]
        return (index, *words, *beside)

    def word(self, index, chain, step):
        """Return the word of a chain of a key at a step."""
        start = self.hasher.digest(SECRET_TAG, [self.secret, index, chain])
        return followed(self.hasher, index, chain, 0, start, step)

    def _node(self, level, place):
        """Return the digest at a place of a level of the tree, the keys being at 0."""
        at = (level, place)
        if at not in self._nodes:
            self._nodes[at] = self._made_node(level, place)
        return self._nodes[at]

    def _made_node(self, level, place):
        """Work out a digest of the tree from what is below it."""
        if level < 1:
            chains = chain_count(self.hasher.width)
            ends = [self.word(place, chain, LAST_STEP) for chain in range(chains)]
            return self.hasher.digest(KEY_TAG, [place, *ends])
        left = self._node(level - 1, 2 * place)
        right = self._node(level - 1, 2 * place + 1)
        return self.hasher.digest(NODE_TAG, [level - 1, left, right])


def verify(hasher, public, message, signature):
    """Tell whether a signature of a message is valid for a public key."""
    if not hasher.is_digest(message) or not has_shape(hasher, signature):
        return False
    tag, numbers = told_inputs(hasher, message, signature)[0]
    return hasher.digest(tag, numbers) == public


def has_shape(hasher, signature):
    """Tell whether a tuple of any integers is built as a signature is."""
    levels = len(signature) - 1 - chain_count(hasher.width)
    if not 0 <= levels <= GREATEST_LEVELS:
        return False
    if not 0 <= signature[0] < 1 << levels:
        return False
    return are_digests(hasher, signature[1:])


def told_inputs(hasher, message, signature):
    """Return the inputs of digests that a signature tells, from the public key down to the key."""
    index = signature[0]
    digits = digits_of(hasher.width, message)
    words = signature[1:len(digits) + 1]
    ends = [followed(hasher, index, chain, digits[chain], word, LAST_STEP) for chain, word in enumerate(words)]
    inputs = [(KEY_TAG, (index, *ends))]
    beside = signature[len(digits) + 1:]
    below = hasher.digest(KEY_TAG, [index, *ends])
    for level, other in enumerate(beside):
        is_right = (index >> level) & 1 == 1
        numbers = (level, other, below) if is_right else (level, below, other)
        inputs.append((NODE_TAG, numbers))
        below = hasher.digest(NODE_TAG, numbers)
    inputs.append((NODE_TAG, (len(beside), below)))
    return inputs[::-1]


def signing_break(signer, signed, message, signature):
    """Return what a valid signature broke if the signer has not made it, otherwise None."""
    if not verify(signer.hasher, signer.public, message, signature):
        return None
    # With other levels the index may be beyond the keys, but then the top tells already.
    own = signer.sign(signature[0] & ((1 << signer.levels) - 1), message)
    own_tree = told_inputs(signer.hasher, message, own)
    found = first_collision(own_tree, told_inputs(signer.hasher, message, signature))
    if found is None:
        found = chain_collision(signer.hasher, message, own, signature)
    if found is None:
        found = found_word(signer.hasher.width, signed, message, signature)
    return found


def chain_collision(hasher, message, own, other):
    """Return the collision to which the first word leads in which two signatures differ, or None."""
    for chain, digit in enumerate(digits_of(hasher.width, message)):
        if own[chain + 1] != other[chain + 1]:
            return meeting(hasher, own[0], chain, digit, own[chain + 1], other[chain + 1])
    return None


def meeting(hasher, index, chain, step, own, other):
    """Return the collision of the first step at which two words of a chain come together, or None."""
    for at in range(step, LAST_STEP):
        own_next = next_word(hasher, index, chain, at, own)
        other_next = next_word(hasher, index, chain, at, other)
        if own_next == other_next:
            return collision((STEP_TAG, (index, chain, at, own)), (STEP_TAG, (index, chain, at, other)))
        own = own_next
        other = other_next
    return None


def found_word(width, signed, message, signature):
    """Return the first word of a signature that was found, not known from what was signed, or None."""
    index = signature[0]
    digits = digits_of(width, message)
    # The words of a key that has signed nothing are all unknown, the last ones too.
    known = [LAST_STEP + 1] * len(digits)
    if index in signed:
        known = digits_of(width, signed[index])
    for chain, digit in enumerate(digits):
        if digit < known[chain]:
            return ("found", index, chain, digit, signature[chain + 1])
    return None
