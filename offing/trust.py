"""One step of trust from a block to another one (chapter 09)."""

from offing.headers import block_fault, block_signers, header_digest
from offing.validators import more_than


class Policy:
    """How long a block is trusted, and how far the time of another one may be ahead."""

    def __init__(self, period, drift):
        self.period = period
        self.drift = drift

    def __eq__(self, other):
        return isinstance(other, Policy) and self.period == other.period and self.drift == other.drift


def step_fault(hasher, policy, trusted, block, now):
    """Return the first fault of a step from a trusted block to another one, or None."""
    if now >= trusted.header.time + policy.period:
        return "expired"
    fault = block_fault(hasher, trusted.header.chain, block)
    if fault is None:
        fault = place_fault(policy, trusted.header, block.header, now)
    if fault is None:
        fault = link_fault(hasher, trusted, block)
    return fault


def place_fault(policy, trusted, header, now):
    """Return the first fault of the height and the time of a header behind a trusted one, or None."""
    if header.height <= trusted.height:
        return "height"
    if header.time <= trusted.time:
        return "time"
    if header.time > now + policy.drift:
        return "future"
    return None


def link_fault(hasher, trusted, block):
    """Return the first fault of what ties a block of a greater height to a trusted one, or None."""
    if block.header.height == trusted.header.height + 1:
        return next_fault(hasher, trusted.header, block.header)
    if not more_than(trusted.following, block_signers(hasher, block), 1, 3):
        return "overlap"
    return None


def next_fault(hasher, trusted, header):
    """Return the first fault of a header of the height behind that of a trusted one, or None."""
    if header.previous != header_digest(hasher, trusted):
        return "previous"
    if header.members != trusted.following:
        return "next"
    return None
