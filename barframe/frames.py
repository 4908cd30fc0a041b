"""Frames of bars and joints in the plane: which bars are kept, which joints they fix to one another,
which bars hold two joints, which bars are spare, how a frame is taken apart, and, where the joints stand at
given places, how many equations its bars tell and whether two joints can move against one another.

A refusal is a list of its number alone: -2 for what is no frame, or an argument not as told;
-3 for a frame of which the question can't be asked; -1 for more to tell than was asked for.
"""

MOST_JOINTS = 32
MOST_BARS = 96
WORD_BITS = 32
# What a row of a joint with two bars has in the place of a third joint and of a bar that comes.
EMPTY = 255
MOST_PLACED_JOINTS = 12
FARTHEST = 1000


class Pebbles:
    """Two pebbles for each joint: free, or lying on a bar of that joint. Every laid bar bears one.

    Laid bars among j joints thus are at most 2 j less the pebbles that are free there. So a bar more is
    in order with them just if both its joints can have both their pebbles free at once.
    """

    def __init__(self, n):
        self.free = [2] * n
        # For each joint the far ends of those bars on which its own pebbles lie.
        self.ahead = [[] for joint in range(n)]

    def lay(self, u, v):
        """Lay a bar between u and v if it is in order with those laid; whether it was laid."""
        if not self.allows(u, v):
            return False
        self.free[u] -= 1
        self.ahead[u].append(v)
        return True

    def allows(self, u, v):
        """Whether a bar more between u and v is in order with those laid. Pebbles may move by it, bars don't."""
        return self.gather(u, v) and self.gather(v, u)

    def gather(self, joint, held):
        """Free both pebbles of joint without taking those of held; whether it could be done."""
        while self.free[joint] < 2:
            if not self.draw(joint, held):
                return False
        return True

    def draw(self, joint, held):
        """Free one pebble of joint, in exchange for one that's free elsewhere but at held; whether there was one."""
        before = {joint: joint}
        reached = [joint]
        k = 0
        while k < len(reached):
            here = reached[k]
            if here != joint and here != held and self.free[here] > 0:
                self.pass_on(here, joint, before)
                return True
            for far in self.ahead[here]:
                if far not in before:
                    before[far] = here
                    reached.append(far)
            k += 1
        return False

    def pass_on(self, giver, taker, before):
        """Let each bar on the way from taker to giver be borne from its other end."""
        here = giver
        while here != taker:
            back = before[here]
            self.ahead[back].remove(here)
            self.ahead[here].append(back)
            here = back
        self.free[giver] -= 1
        self.free[taker] += 1


def is_frame(n, bars):
    """Whether n and bars are a frame."""
    if n < 2 or n > MOST_JOINTS or len(bars) > 2 * MOST_BARS:
        return False
    seen = {}
    for i in range(0, len(bars), 2):
        low = min(bars[i], bars[i + 1])
        high = max(bars[i], bars[i + 1])
        if low < 0 or low == high or high >= n or (low, high) in seen:
            return False
        seen[(low, high)] = True
    return True


def are_two_joints(n, u, v):
    """Whether u and v are two different joints of n."""
    return min(u, v) >= 0 and max(u, v) < n and u != v


def lay_kept(pebbles, bars):
    """Lay those bars that are kept; a list of their numbers."""
    kept = []
    for i in range(len(bars) // 2):
        if pebbles.lay(bars[2 * i], bars[2 * i + 1]):
            kept.append(i)
    return kept


def bar_mask(numbers):
    """The mask of the bars of these numbers, as three numbers."""
    words = [0, 0, 0]
    for i in numbers:
        words[i // WORD_BITS] |= 1 << (i % WORD_BITS)
    return words


def fixed_masks(n, pebbles):
    """For each joint the mask of those fixed to it by the bars that are laid, with the joint itself."""
    masks = [1 << u for u in range(n)]
    for u in range(n):
        for v in range(u + 1, n):
            # The two joints of a laid bar never have all four pebbles free, so that case needs no test of its own.
            if not pebbles.allows(u, v):
                masks[u] |= 1 << v
                masks[v] |= 1 << u
    return masks


def fixed_sets(masks):
    """The masks, rising, of the largest sets of two joints or more that are all fixed to one another."""
    found = {}
    for u in range(len(masks)):
        for v in range(u + 1, len(masks)):
            if (masks[u] >> v) & 1:
                # Joints that are fixed to both of two fixed ones are fixed to one another too,
                # so two fixed joints are in one set alone, and what both are fixed to is the whole of it.
                found[masks[u] & masks[v]] = True
    return sorted(found)


def is_between(bars, i, u, v):
    """Whether bar i is between u and v, either way round."""
    ends = (bars[2 * i], bars[2 * i + 1])
    return ends == (u, v) or ends == (v, u)


def holds(n, bars, others, u, v):
    """Whether a bar between u and v isn't in order with those bars whose numbers are in others."""
    pebbles = Pebbles(n)
    for i in others:
        pebbles.lay(bars[2 * i], bars[2 * i + 1])
    return not pebbles.allows(u, v)


def needed_bars(n, bars, kept, u, v):
    """The numbers of those kept bars of which any one, taken away, lets a bar between u and v be in order."""
    needed = []
    for i in kept:
        others = [k for k in kept if k != i]
        if not holds(n, bars, others, u, v):
            needed.append(i)
    return needed


def count_kept_without(n, bars, i):
    """How many bars are kept if bar i is left out."""
    return len(lay_kept(Pebbles(n), bars[:2 * i] + bars[2 * i + 2:]))


def far_ends(pairs, joint):
    """The joints, rising, to which a bar goes from joint."""
    return sorted([pair[0] + pair[1] - joint for pair in pairs if joint in pair])


def least_joint(n, pairs, many):
    """The least joint with just so many bars, None if there is none."""
    for joint in range(n):
        if len(far_ends(pairs, joint)) == many:
            return joint
    return None


def first_in_order(n, pairs, choices):
    """The number of the first choice that is in order as a bar together with pairs, one of them at least being so."""
    pebbles = Pebbles(n)
    for pair in pairs:
        pebbles.lay(pair[0], pair[1])
    # Two joints that have a bar already never have all four pebbles free, so they are passed over here too.
    which = 0
    while not pebbles.allows(choices[which][0], choices[which][1]):
        which += 1
    return which


def taken_apart(n, bars):
    """The rows that tell how a frame of 2 n - 3 bars, all of them kept, is taken apart."""
    pairs = [(bars[i], bars[i + 1]) for i in range(0, len(bars), 2)]
    rows = []
    while len(rows) < n - 2:
        # 2 j - 3 bars among j joints are too few for four at each joint, and no joint has one bar alone,
        # or the others would have too many. So some joint has two or three.
        joint = least_joint(n, pairs, 2)
        if joint is None:
            joint = least_joint(n, pairs, 3)
        far = far_ends(pairs, joint)
        pairs = [pair for pair in pairs if joint not in pair]
        if len(far) == 2:
            rows.append([joint] + far + [EMPTY, EMPTY])
        else:
            choices = [(far[0], far[1]), (far[0], far[2]), (far[1], far[2])]
            which = first_in_order(n, pairs, choices)
            pairs = pairs + [choices[which]]
            rows.append([joint] + far + [which])
    return rows


def are_places(xy):
    """Whether no number of xy is farther out than a place may be."""
    return all([abs(number) <= FARTHEST for number in xy])


def equation(n, a, b, xy):
    """What a bar between a and b tells: the factors of what joints 0, 1 .. move, along x and along y for each."""
    factors = [0] * (2 * n)
    for axis in range(2):
        apart = xy[2 * a + axis] - xy[2 * b + axis]
        factors[2 * a + axis] = apart
        factors[2 * b + axis] = -apart
    return factors


def bar_equations(n, bars, xy):
    """The equations of all bars."""
    return [equation(n, bars[i], bars[i + 1], xy) for i in range(0, len(bars), 2)]


def first_with(rows, column):
    """The number of the first row that isn't 0 in this column, None if there is none."""
    for k in range(len(rows)):
        if rows[k][column] != 0:
            return k
    return None


def cleared(row, lead, column, before):
    """The row, made 0 in this column by means of lead."""
    # before is what the lead ahead of this one had in its own column. It divides evenly, since what comes out is
    # a determinant of the equations' own numbers; without it the numbers would double in length each time.
    return [(row[k] * lead[column] - lead[k] * row[column]) // before for k in range(len(row))]


def count_needed(rows):
    """How many of these rows, as equations, are needed from which all others follow."""
    left = list(rows)
    needed = 0
    before = 1
    column = 0
    while len(left) > 0 and column < len(left[0]):
        k = first_with(left, column)
        if k is not None:
            lead = left.pop(k)
            left = [cleared(row, lead, column, before) for row in left]
            before = lead[column]
            needed += 1
        column += 1
    return needed


def ri_kept(n, bars):
    """How many bars are kept, then their mask."""
    if not is_frame(n, bars):
        return [-2]
    kept = lay_kept(Pebbles(n), bars)
    return [len(kept)] + bar_mask(kept)


def ri_parts(n, most, bars):
    """How many sets of joints there are that are fixed to one another, then their masks, rising."""
    if most < 0 or not is_frame(n, bars):
        return [-2]
    pebbles = Pebbles(n)
    lay_kept(pebbles, bars)
    sets = fixed_sets(fixed_masks(n, pebbles))
    if len(sets) > most:
        return [-1]
    return [len(sets)] + sets


def ri_holds(n, u, v, bars):
    """How many kept bars there are of which each is needed to fix u and v to one another, then their mask."""
    if not is_frame(n, bars) or not are_two_joints(n, u, v):
        return [-2]
    kept = lay_kept(Pebbles(n), bars)
    # A kept bar between the two fixes them as well, so holds alone can't tell that case.
    if any([is_between(bars, i, u, v) for i in kept]) or not holds(n, bars, kept, u, v):
        return [-3]
    needed = needed_bars(n, bars, kept, u, v)
    return [len(needed)] + bar_mask(needed)


def ri_spare(n, bars):
    """How many bars there are without which, one by one, as many would be kept, then their mask."""
    if not is_frame(n, bars):
        return [-2]
    many = len(lay_kept(Pebbles(n), bars))
    spare = [i for i in range(len(bars) // 2) if count_kept_without(n, bars, i) == many]
    return [len(spare)] + bar_mask(spare)


def ri_steps(n, most, bars):
    """How many rows tell how the frame is taken apart till two joints are left, then the rows, five numbers each."""
    if most < 0 or not is_frame(n, bars):
        return [-2]
    many = len(bars) // 2
    if many != 2 * n - 3 or len(lay_kept(Pebbles(n), bars)) != many:
        return [-3]
    rows = taken_apart(n, bars)
    if len(rows) > most:
        return [-1]
    answer = [len(rows)]
    for row in rows:
        answer.extend(row)
    return answer


def ri_rank(n, bars, xy):
    """How many of the bars' equations are needed from which all others follow, the joints standing at xy."""
    if not is_frame(n, bars) or not are_places(xy):
        return [-2]
    if n > MOST_PLACED_JOINTS:
        return [-3]
    return [count_needed(bar_equations(n, bars, xy))]


def ri_moves(n, u, v, bars, xy):
    """1 if joints standing at xy can move as the bars allow, but not as a bar between u and v would; else 0."""
    if not is_frame(n, bars) or not are_two_joints(n, u, v) or not are_places(xy):
        return [-2]
    if n > MOST_PLACED_JOINTS:
        return [-3]
    rows = bar_equations(n, bars, xy)
    # An equation that follows from the others doesn't raise how many are needed; any other raises it by 1.
    return [count_needed(rows + [equation(n, u, v, xy)]) - count_needed(rows)]
