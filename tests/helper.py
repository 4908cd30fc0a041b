"""What the tests share: frames by name, and the document's words counted out with no short cut."""

from fractions import Fraction
from functools import lru_cache
from itertools import combinations

SQUARE = [(0, 1), (1, 2), (2, 3), (3, 0)]

NO_FRAMES = [
    (1, []), (0, []), (-1, []), (-2147483648, []),
    (33, []), (40, [0, 1]), (2147483647, []),
    (1, [0, 1]), (0, [0, 1]), (-5, [0, 1]),
    (2, [0, 2]), (2, [2, 0]), (4, [0, 1, 1, 4]), (8, [0, 8]), (8, [255, 0]), (32, [31, 32]),
    (2, [0, 0]), (8, [7, 7]), (3, [0, 1, 1, 2, 2, 2]), (3, [5, 5]),
    (2, [0, 1, 0, 1]), (2, [0, 1, 1, 0]), (4, [3, 2, 0, 1, 2, 3]), (8, [6, 7, 0, 1, 0, 2, 6, 7]),
]


def flat(pairs):
    return [joint for pair in pairs for joint in pair]


def all_pairs(joints):
    return list(combinations(joints, 2))


def turned(pairs):
    return [(b, a) for a, b in pairs]


def shuffled(things, seed):
    """A mixing that is the same every time it runs."""
    rest = list(things)
    mixed = []
    while rest:
        seed = (seed * 1103515245 + 12345) % 2147483648
        mixed.append(rest.pop((seed >> 8) % len(rest)))
    return mixed


TRIANGLE = all_pairs((0, 1, 2))
PRISM = all_pairs((0, 1, 2)) + all_pairs((3, 4, 5)) + [(0, 3), (1, 4), (2, 5)]
THREE_BY_THREE = [(a, b) for a in (0, 1, 2) for b in (3, 4, 5)]

# Places for a square.
CORNERS = [(0, 0), (10, 0), (10, 10), (0, 10)]
# Places for a prism: where it keeps its shape, where its three bars go the same way, where they meet.
APART = [(0, 0), (10, 0), (4, 7), (1, 20), (13, 22), (3, 29)]
LEVEL = [(0, 0), (10, 0), (4, 7), (0, 20), (10, 20), (4, 27)]
MEETING = [(1, 0), (0, 1), (-1, -1), (2, 0), (0, 3), (-4, -4)]
CIRCLE = [(5, 0), (3, 4), (-3, 4), (-5, 0), (4, -3), (0, 5)]
# Twelve places, each with an x or a y as far out as may be.
ALL_ROUND = [
    (-1000, -1000), (1000, -1000), (1000, 1000), (-1000, 1000), (-1000, -500), (-1000, 3), (1000, -7), (1000, 501),
    (-999, -1000), (13, -1000), (11, 1000), (999, 1000),
]
OUTSIDE = (-2147483648, -1000000, -1002, -1001, 1001, 1002, 1000000, 2147483647)


@lru_cache(maxsize=1024)
def most_chosen(bars):
    """Over all choices of these bars (a mask of joints each): the most that are chosen, by which joints they touch."""
    if not bars:
        return {0: 0}
    without = most_chosen(bars[:-1])
    most = dict(without)
    for touched, many in without.items():
        now = touched | bars[-1]
        most[now] = max(most.get(now, 0), many + 1)
    return most


def in_order(pairs):
    bars = tuple(dict.fromkeys((1 << a) | (1 << b) for a, b in pairs))
    return all(many <= 2 * touched.bit_count() - 3 for touched, many in most_chosen(bars).items() if touched)


def in_order_one_by_one(pairs):
    """The same as in_order, each choice of bars by itself."""
    choices = [some for many in range(1, len(pairs) + 1) for some in combinations(pairs, many)]
    return all(len(some) <= 2 * len(set(flat(some))) - 3 for some in choices)


def counted_kept(pairs):
    kept = []
    for i, pair in enumerate(pairs):
        if in_order([pairs[k] for k in kept] + [pair]):
            kept.append(i)
    return kept


def count_and_mask(numbers):
    """How many bars, then their mask."""
    return [len(numbers)] + [sum(1 << (i - 32 * w) for i in numbers if i // 32 == w) for w in range(3)]


def kept_by_words(pairs):
    """What ri_kept is to answer."""
    return count_and_mask(counted_kept(pairs))


def holds_by_words(u, v, pairs):
    """What ri_holds is to answer where u and v are two joints of the frame."""
    kept = counted_kept(pairs)
    if {u, v} in [set(pairs[i]) for i in kept] or in_order([pairs[i] for i in kept] + [(u, v)]):
        return [-3]
    return count_and_mask([i for i in kept if in_order([pairs[k] for k in kept if k != i] + [(u, v)])])


def spare_by_words(pairs):
    """What ri_spare is to answer."""
    many = len(counted_kept(pairs))
    return count_and_mask([i for i in range(len(pairs)) if len(counted_kept(pairs[:i] + pairs[i + 1:])) == many])


def parts_by_words(n, pairs):
    """What ri_parts is to answer where most is high enough."""
    kept = [tuple(sorted(pairs[i])) for i in counted_kept(pairs)]
    fixed = {pair: pair in kept or not in_order(kept + [pair]) for pair in all_pairs(range(n))}

    def is_set(joints):
        return len(joints) >= 2 and all(fixed[pair] for pair in all_pairs(joints))

    masks = []
    for mask in range(1 << n):
        joints = [v for v in range(n) if mask >> v & 1]
        others = [v for v in range(n) if not mask >> v & 1]
        if is_set(joints) and not any(is_set(sorted(joints + [v])) for v in others):
            masks.append(mask)
    return [len(masks)] + masks


def steps_by_words(n, pairs):
    """What ri_steps is to answer where most is high enough."""
    if len(counted_kept(pairs)) != len(pairs) or len(pairs) != 2 * n - 3:
        return [-3]
    left = {frozenset(pair) for pair in pairs}
    joints = set(range(n))
    rows = []
    while len(joints) > 2:
        with_two = [v for v in joints if sum(v in bar for bar in left) == 2]
        with_three = [v for v in joints if sum(v in bar for bar in left) == 3]
        joint = min(with_two or with_three)
        others = sorted(v for v in joints if {joint, v} in left)
        joints.remove(joint)
        left = {bar for bar in left if joint not in bar}
        if with_two:
            rows.append([joint] + others + [255, 255])
        else:
            a, b, c = others
            come = [(w, pair) for w, pair in enumerate([(a, b), (a, c), (b, c)]) if set(pair) not in left]
            which, pair = [(w, pair) for w, pair in come if in_order([tuple(bar) for bar in left] + [pair])][0]
            left.add(frozenset(pair))
            rows.append([joint, a, b, c, which])
    return [len(rows)] + flat(rows)


def told(pair, places, moves):
    """What a bar tells to be 0."""
    a, b = pair
    return sum((moves[a][k] - moves[b][k]) * (places[a][k] - places[b][k]) for k in (0, 1))


def solved(rows):
    """The equations needed from which all others follow, taken in one by one: what is 1 in its own column and 0 in
    those of the others, by that column."""
    leads = {}
    for row in rows:
        row = [Fraction(number) for number in row]
        for k, lead in leads.items():
            row = less(row, row[k], lead)
        first = [k for k, number in enumerate(row) if number][:1]
        if first:
            row = [number / row[first[0]] for number in row]
            leads = {k: less(lead, lead[first[0]], row) for k, lead in leads.items()}
            leads[first[0]] = row
    return leads


def less(row, times, other):
    return [a - times * b for a, b in zip(row, other)] if times else row


def rows_by_words(n, pairs, places):
    """What each bar tells when one joint alone moves by 1, along x or along y."""
    one_by_one = [[(int(k == 2 * v), int(k == 2 * v + 1)) for v in range(n)] for k in range(2 * n)]
    return [[told(pair, places, moves) for moves in one_by_one] for pair in pairs]


def rank_by_words(n, pairs, places):
    """What ri_rank is to answer where n is 12 at the most."""
    return [len(solved(rows_by_words(n, pairs, places)))]


def ways_to_move(n, pairs, places):
    """Ways in which the joints can move as all bars allow; any other is made up of these."""
    leads = solved(rows_by_words(n, pairs, places))
    ways = []
    for free in range(2 * n):
        if free not in leads:
            numbers = [-leads[k][free] if k in leads else Fraction(k == free) for k in range(2 * n)]
            ways.append([(numbers[2 * v], numbers[2 * v + 1]) for v in range(n)])
    return ways


def moves_by_words(u, v, ways, places):
    """What ri_moves is to answer where n is 12 at the most, by the ways in which the joints can move."""
    return [int(any(told((u, v), places, moves) != 0 for moves in ways))]


def some_places(n, reach, seed):
    """Places from -reach to reach, the same every time."""
    places = []
    for v in range(n):
        seed = (seed * 1103515245 + 12345) % 2147483648
        places.append(((seed >> 4) % (2 * reach + 1) - reach, (seed >> 17) % (2 * reach + 1) - reach))
    return places


def full_frame(n, seed):
    """2 n - 3 bars that are all kept, made joint by joint; not often with a joint that has two bars."""
    pairs = [(0, 1)]
    for v in range(2, n):
        mixed = shuffled(range(v), seed + v)
        if v == 2 or (seed >> v) % 5 == 0:
            pairs += [(mixed[0], v), (mixed[1], v)]
        else:
            a, b = pairs.pop(shuffled(range(len(pairs)), seed * v)[0])
            c = [u for u in mixed if u not in (a, b)][0]
            pairs += [(a, v), (b, v), (c, v)]
    names = shuffled(range(n), 7 * seed)
    return shuffled([(names[a], names[b]) for a, b in pairs], seed)


def full_frames():
    """(n, pairs): every frame of up to 5 joints that has 2 n - 3 bars, all kept; those of 6 with three bars at each
    joint; and a walk through the others of 6, 7 and 8."""
    for n in (2, 3, 4, 5):
        for bars in combinations(all_pairs(range(n)), 2 * n - 3):
            if in_order(bars):
                yield n, list(bars)
    for bars in combinations(all_pairs(range(6)), 9):
        if all(sum(v in bar for bar in bars) == 3 for v in range(6)) and in_order(bars):
            yield 6, list(bars)
    for n in (6, 7, 8):
        for seed in range(200):
            yield n, full_frame(n, 1009 * seed + n)


def small_frames():
    """(n, pairs): every frame of up to 4 joints in three orders, and a walk through the larger ones up to 8."""
    for n in (2, 3, 4):
        pairs = all_pairs(range(n))
        for chosen in range(1 << len(pairs)):
            bars = [pair for i, pair in enumerate(pairs) if chosen >> i & 1]
            yield n, bars
            yield n, turned(bars[::-1])
            yield n, shuffled(bars, chosen)
    for n in (5, 6, 7, 8):
        pairs = all_pairs(range(n))
        for seed in range(40):
            mixed = shuffled(pairs, 97 * n + seed)
            some = mixed[: 1 + seed * len(pairs) // 40]
            yield n, [pair if (seed + i) % 2 else pair[::-1] for i, pair in enumerate(some)]


class Untouched(list):
    """A list that fails when it is changed, be it for a while."""

    def refuse(self, *args, **kwargs):
        raise AssertionError("what was handed in was changed")

    __setitem__ = __delitem__ = __iadd__ = __imul__ = refuse
    append = clear = extend = insert = pop = remove = reverse = sort = refuse
