"""The full node, which has a whole chain (chapter 08)."""

from offing.headers import Block, Header, copied, header_digest, vote_message
from offing.maps import changed_map, map_root
from offing.trust import step_fault
from offing.validators import members_root


def votes_for(hasher, header, members, signers):
    """Return the votes for a header of those signers who are members, in the ascending order of publics."""
    message = vote_message(hasher, header)
    is_member = {public: True for public, weight in members}
    votes = []
    for signer in signers:
        if signer.public in is_member:
            votes.append((signer.public, signer.sign(header.height, message)))
    return sorted(votes, key=lambda vote: vote[0])


class Node:
    """A node with the blocks and the states of a chain, from the height 0 on."""

    def __init__(self, hasher, chain, time, members, following, pairs):
        self.hasher = hasher
        self.chain = chain
        self._blocks = []
        self._states = []
        self._add(time, 0, members, following, pairs, [])

    def grow(self, time, changes, following, signers):
        """Add a block with changes of the state, signed by those signers who are members."""
        last = self._blocks[-1]
        pairs = changed_map(self._states[-1], list(changes.items()))
        self._add(time, header_digest(self.hasher, last.header), last.following, following, pairs, signers)

    def height(self):
        """Return the greatest height."""
        return len(self._blocks) - 1

    def block(self, height):
        """Return the block of a height; None if there is none."""
        if not 0 <= height <= self.height():
            return None
        # The caller may change what it gets, and the chain stays.
        return copied(self._blocks[height])

    def pairs_at(self, height):
        """Return the state of a height, a new dict; None if there is none."""
        if not 0 <= height <= self.height():
            return None
        return dict(self._states[height])

    def answers(self):
        """Return the dict of all blocks by their heights."""
        return {height: self.block(height) for height in range(len(self._blocks))}

    def plan(self, start, height, policy, now):
        """Return the least of the shortest plans from a height to a greater one, or None if there is none."""
        if start < 0 or height > self.height():
            return None
        following = self._steps_to(start, height, policy, now)
        if start not in following:
            return None
        heights = []
        at = start
        while at != height:
            at = following[at]
            heights.append(at)
        return heights

    def attach(self, block, pairs):
        """Add a block as it is, with its state; it is not looked at whether it may be added."""
        self._blocks.append(copied(block))
        self._states.append(dict(pairs))

    def _add(self, time, previous, members, following, pairs, signers):
        """Add the block of the next height, with its state."""
        hasher = self.hasher
        root = members_root(hasher, members)
        following_root = members_root(hasher, following)
        height = len(self._blocks)
        header = Header(self.chain, height, time, previous, map_root(hasher, pairs), root, following_root)
        self.attach(Block(header, members, following, votes_for(hasher, header, members, signers)), pairs)

    def _steps_to(self, start, height, policy, now):
        """Return the next height of the least shortest plan to a height, for each height that is needed.

        From the last height backwards those are found that are one step away, then two, and so on,
        until the start is among them: so the least next height is looked for among those only
        that are one step nearer.
        """
        following = {}
        nearer = [height]
        while len(nearer) > 0 and start not in following:
            found = {}
            for low in range(start, height):
                if low not in following:
                    goal = self._first_step(low, nearer, policy, now)
                    if goal is not None:
                        found[low] = goal
            following.update(found)
            nearer = list(found)
        return following

    def _first_step(self, low, goals, policy, now):
        """Return the first of ascending heights to which a step is allowed from a height, or None."""
        for goal in goals:
            if goal > low and step_fault(self.hasher, policy, self._blocks[low], self._blocks[goal], now) is None:
                return goal
        return None
