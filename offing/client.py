"""The light client, which gets from a trusted block to others by steps (chapter 10)."""

from offing.errors import BadBlock
from offing.headers import copied, lists_fault
from offing.trust import step_fault


class Client:
    """Trusts one block at first, and others by steps without fault."""

    def __init__(self, hasher, policy, block):
        fault = lists_fault(hasher, block)
        if fault is not None:
            raise BadBlock(fault)
        self.hasher = hasher
        self.policy = policy
        self.halted = False
        self.steps = []
        # Blocks are copied on the way in and out: what others do to theirs is not trusted.
        self._blocks = {block.header.height: copied(block)}

    def heights(self):
        """Return the ascending list of the trusted heights."""
        return sorted(list(self._blocks))

    def block(self, height):
        """Return the trusted block of a height; None if there is none."""
        if height not in self._blocks:
            return None
        return copied(self._blocks[height])

    def reach(self, answers, height, now):
        """Get to a height by halving; return what came of it."""
        if height in self._blocks:
            return ("trusted",)
        fault = self._bar(height)
        if fault is not None:
            return ("refused", fault, height)
        base = self._base_of(height)
        wanted = [height]
        while len(wanted) > 0:
            fault = self._step(answers, base, wanted[-1], now)
            if fault is None:
                base = wanted.pop()
            elif fault == "overlap":
                wanted.append((base + wanted[-1]) // 2)
            else:
                return ("refused", fault, wanted[-1])
        return ("trusted",)

    def follow(self, answers, heights, now):
        """Get to heights, one after the other, each by one step; return what came of it."""
        for height in heights:
            fault = self._follow_fault(answers, height, now)
            if fault is not None:
                return ("refused", fault, height)
        return ("trusted",)

    def _follow_fault(self, answers, height, now):
        """Get to a height by one step, if it is not trusted; return the fault that ends it, or None."""
        if height in self._blocks:
            return None
        fault = self._bar(height)
        if fault is None:
            fault = self._step(answers, self._base_of(height), height, now)
        return fault

    def _bar(self, height):
        """Return what bars the way to a height that is not trusted before any step, or None."""
        if self.halted:
            return "halted"
        if height < self.heights()[0]:
            return "below"
        return None

    def _base_of(self, height):
        """Return the greatest trusted height below another one."""
        return max([trusted for trusted in self._blocks if trusted < height])

    def _step(self, answers, base, height, now):
        """Trust the block that is said for a height, by a step from a base; return the fault if it has one."""
        block = answers.get(height)
        if block is None:
            return "missing"
        if block.header.height != height:
            return "other"
        fault = step_fault(self.hasher, self.policy, self._blocks[base], block, now)
        if fault is None:
            self._blocks[height] = copied(block)
            self.steps.append((base, copied(block)))
        return fault
