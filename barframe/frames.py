"""Frames of bars and joints in the plane: which bars are kept, which joints they fix to one another,
which bars hold two joints, and which bars are spare.

A refusal is a list of its number alone: -2 for what is no frame, or an argument not as told;
-3 for a frame of which the question can't be asked; -1 for more to tell than was asked for.
"""

MOST_JOINTS = 32
MOST_BARS = 96
WORD_BITS = 32


class Pebbles:
    """Two pebbles for each joint: free, or lying on a bar of that joint. Every laid bar bears one.

    Laid bars among j joints thus are at most 2 j less the pebbles that are free there. So a bar more is
    in order with them just if both its joints can have both their pebbles free at once.
    """

    def __init__(self, n):
        self.free = [2] * n
        # For each joint the far ends of those bars on which its own pebbles lie.
        self.ahead = [[] for joint in range(n)]

    def lay(self, u, v):
        """Lay a bar between u and v if it is in order with those laid; whether it was laid."""
        if not self.allows(u, v):
            return False
        self.free[u] -= 1
        self.ahead[u].append(v)
        return True

    def allows(self, u, v):
        """Whether a bar more between u and v is in order with those laid. Pebbles may move by it, bars don't."""
        return self.gather(u, v) and self.gather(v, u)

    def gather(self, joint, held):
        """Free both pebbles of joint without taking those of held; whether it could be done."""
        while self.free[joint] < 2:
            if not self.draw(joint, held):
                return False
        return True

    def draw(self, joint, held):
        """Free one pebble of joint, in exchange for one that's free elsewhere but at held; whether there was one."""
        before = {joint: joint}
        reached = [joint]
        k = 0
        while k < len(reached):
            here = reached[k]
            if here != joint and here != held and self.free[here] > 0:
                self.pass_on(here, joint, before)
                return True
            for far in self.ahead[here]:
                if far not in before:
                    before[far] = here
                    reached.append(far)
            k += 1
        return False

    def pass_on(self, giver, taker, before):
        """Let each bar on the way from taker to giver be borne from its other end."""
        here = giver
        while here != taker:
            back = before[here]
            self.ahead[back].remove(here)
            self.ahead[here].append(back)
            here = back
        self.free[giver] -= 1
        self.free[taker] += 1


def is_frame(n, bars):
    """Whether n and bars are a frame."""
    if n < 2 or n > MOST_JOINTS or len(bars) > 2 * MOST_BARS:
        return False
    seen = {}
    for i in range(0, len(bars), 2):
        low = min(bars[i], bars[i + 1])
        high = max(bars[i], bars[i + 1])
        if low < 0 or low == high or high >= n or (low, high) in seen:
            return False
        seen[(low, high)] = True
    return True


def are_two_joints(n, u, v):
    """Whether u and v are two different joints of n."""
    return min(u, v) >= 0 and max(u, v) < n and u != v


def lay_kept(pebbles, bars):
    """Lay those bars that are kept; a list of their numbers."""
    kept = []
    for i in range(len(bars) // 2):
        if pebbles.lay(bars[2 * i], bars[2 * i + 1]):
            kept.append(i)
    return kept


def bar_mask(numbers):
    """The mask of the bars of these numbers, as three numbers."""
    words = [0, 0, 0]
    for i in numbers:
        words[i // WORD_BITS] |= 1 << (i % WORD_BITS)
    return words


def fixed_masks(n, pebbles):
    """For each joint the mask of those fixed to it by the bars that are laid, with the joint itself."""
    masks = [1 << u for u in range(n)]
    for u in range(n):
        for v in range(u + 1, n):
            # The two joints of a laid bar never have all four pebbles free, so that case needs no test of its own.
            if not pebbles.allows(u, v):
                masks[u] |= 1 << v
                masks[v] |= 1 << u
    return masks


def fixed_sets(masks):
    """The masks, rising, of the largest sets of two joints or more that are all fixed to one another."""
    found = {}
    for u in range(len(masks)):
        for v in range(u + 1, len(masks)):
            if (masks[u] >> v) & 1:
                # Joints that are fixed to both of two fixed ones are fixed to one another too,
                # so two fixed joints are in one set alone, and what both are fixed to is the whole of it.
                found[masks[u] & masks[v]] = True
    return sorted(found)


def is_between(bars, i, u, v):
    """Whether bar i is between u and v, either way round."""
    ends = (bars[2 * i], bars[2 * i + 1])
    return ends == (u, v) or ends == (v, u)


def holds(n, bars, others, u, v):
    """Whether a bar between u and v isn't in order with those bars whose numbers are in others."""
    pebbles = Pebbles(n)
    for i in others:
        pebbles.lay(bars[2 * i], bars[2 * i + 1])
    return not pebbles.allows(u, v)


def needed_bars(n, bars, kept, u, v):
    """The numbers of those kept bars of which any one, taken away, lets a bar between u and v be in order."""
    needed = []
    for i in kept:
        others = [k for k in kept if k != i]
        if not holds(n, bars, others, u, v):
            needed.append(i)
    return needed


def count_kept_without(n, bars, i):
    """How many bars are kept if bar i is left out."""
    return len(lay_kept(Pebbles(n), bars[:2 * i] + bars[2 * i + 2:]))


def ri_kept(n, bars):
    """How many bars are kept, then their mask."""
    if not is_frame(n, bars):
        return [-2]
    kept = lay_kept(Pebbles(n), bars)
    return [len(kept)] + bar_mask(kept)


def ri_parts(n, most, bars):
    """How many sets of joints there are that are fixed to one another, then their masks, rising."""
    if most < 0 or not is_frame(n, bars):
        return [-2]
    pebbles = Pebbles(n)
    lay_kept(pebbles, bars)
    sets = fixed_sets(fixed_masks(n, pebbles))
    if len(sets) > most:
        return [-1]
    return [len(sets)] + sets


def ri_holds(n, u, v, bars):
    """How many kept bars there are of which each is needed to fix u and v to one another, then their mask."""
    if not is_frame(n, bars) or not are_two_joints(n, u, v):
        return [-2]
    kept = lay_kept(Pebbles(n), bars)
    # A kept bar between the two fixes them as well, so holds alone can't tell that case.
    if any([is_between(bars, i, u, v) for i in kept]) or not holds(n, bars, kept, u, v):
        return [-3]
    needed = needed_bars(n, bars, kept, u, v)
    return [len(needed)] + bar_mask(needed)


def ri_spare(n, bars):
    """How many bars there are without which, one by one, as many would be kept, then their mask."""
    if not is_frame(n, bars):
        return [-2]
    many = len(lay_kept(Pebbles(n), bars))
    spare = [i for i in range(len(bars) // 2) if count_kept_without(n, bars, i) == many]
    return [len(spare)] + bar_mask(spare)
