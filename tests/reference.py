"""The rules of the document once more, written plainly and apart from the program, to test it by."""

import functools

WORD = 2 ** 64
EDGES = [2 ** bits + more for bits in (31, 32, 33, 63, 64, 65, 96, 128, 1000) for more in (-1, 0, 1)]


def limbs(numbers):
    row = [len(numbers)]
    for number in numbers:
        own = []
        while number > 0:
            number, limb = divmod(number, 2 ** 32)
            own.append(limb)
        row += [len(own)] + own
    return row


def digest(width, tag, numbers):
    one, two = 7263541890216354987, 12985647301928374651
    for limb in [tag] + limbs(numbers) + [width, width]:
        one = (one ^ limb) * 15241578750190521011 % WORD
        one ^= one // 2 ** 31
        two = (one + two) * 9764318250173649287 % WORD
        two ^= two // 2 ** 29
        one = (one + two) % WORD
    return int(format(one, "064b")[:width] + format(two, "064b")[:max(0, width - 64)], 2)


def digits(width, message):
    many = -(-width // 4)
    row = [int(sign, 16) for sign in reversed(format(message, "0%dx" % many))]
    check = 15 * many - sum(row)
    places = len(format(15 * many, "x"))
    return row + [int(sign, 16) for sign in reversed(format(check, "0%dx" % places))]


def chain_words(width, index, chain, start, step):
    """The words of a chain from a step to the step 15, by their steps."""
    words = {step: start}
    for at in range(step, 15):
        words[at + 1] = digest(width, 4, [index, chain, at, words[at]])
    return words


@functools.cache
def secret_words(width, secret, index):
    """The words of all chains of a key, by chain and step."""
    chains = range(len(digits(width, 0)))
    starts = [digest(width, 7, [secret, index, chain]) for chain in chains]
    return [chain_words(width, index, chain, starts[chain], 0) for chain in chains]


@functools.cache
def tree(width, secret, levels):
    """The rows of the tree, from the keys up."""
    rows = [[]]
    for index in range(2 ** levels):
        ends = [words[15] for words in secret_words(width, secret, index)]
        rows[0].append(digest(width, 5, [index] + ends))
    for level in range(levels):
        row = rows[-1]
        pairs = [row[at:at + 2] for at in range(0, len(row), 2)]
        rows.append([digest(width, 6, [level] + pair) for pair in pairs])
    return rows


def public(width, secret, levels):
    return digest(width, 6, [levels, tree(width, secret, levels)[-1][0]])


def signature(width, secret, levels, index, message):
    words = secret_words(width, secret, index)
    told = [words[chain][digit] for chain, digit in enumerate(digits(width, message))]
    rows = tree(width, secret, levels)
    beside = []
    for level in range(levels):
        place = index // 2 ** level
        beside.append(rows[level][place + 1 if place % 2 == 0 else place - 1])
    return (index, *told, *beside)


def inputs(width, message, told):
    """The inputs of the digests that a signature of the right shape tells, from the key up."""
    steps = digits(width, message)
    index, words, beside = told[0], told[1:1 + len(steps)], told[1 + len(steps):]
    ends = [chain_words(width, index, chain, words[chain], steps[chain])[15] for chain in range(len(steps))]
    row = [(5, (index, *ends))]
    for level, other in enumerate(beside):
        below = digest(width, *row[-1])
        pair = (below, other) if index // 2 ** level % 2 == 0 else (other, below)
        row.append((6, (level, *pair)))
    return row + [(6, (len(beside), digest(width, *row[-1])))]


def valid(width, key, message, told):
    levels = len(told) - 1 - len(digits(width, message))
    if levels not in range(7) or told[0] not in range(2 ** levels):
        return False
    if min(told[1:]) < 0 or max(told[1:]) >= 2 ** width:
        return False
    return digest(width, *inputs(width, message, told)[-1]) == key


def breaking(width, secret, levels, signed, message, told):
    """What a valid signature broke, with the signer's input first, or None."""
    index = told[0]
    rows = tree(width, secret, levels)
    row = inputs(width, message, told)
    top = (6, (levels, rows[-1][0]))
    if row[-1] != top:
        return ("collision", top, row[-1])
    words = secret_words(width, secret, index)
    for level in reversed(range(levels)):
        place = index // 2 ** (level + 1)
        mine = (6, (level, rows[level][2 * place], rows[level][2 * place + 1]))
        if row[level + 1] != mine:
            return ("collision", mine, row[level + 1])
    mine = (5, (index, *[one[15] for one in words]))
    if row[0] != mine:
        return ("collision", mine, row[0])
    steps = digits(width, message)
    for chain, step in enumerate(steps):
        theirs = chain_words(width, index, chain, told[1 + chain], step)
        if theirs[step] != words[chain][step]:
            last = max(at for at in theirs if theirs[at] != words[chain][at])
            first = min(at for at in theirs if theirs[at] == words[chain][at])
            assert first == last + 1
            pair = [(4, (index, chain, last, one[last])) for one in (words[chain], theirs)]
            return ("collision", pair[0], pair[1])
    less = [chain for chain, step in enumerate(steps)
            if index not in signed or step < digits(width, signed[index])[chain]]
    if not less:
        return None
    return ("found", index, less[0], steps[less[0]], told[1 + less[0]])
