"""What the tests share: frames by name, and the document's words counted out with no short cut."""

from functools import lru_cache
from itertools import combinations

SQUARE = [(0, 1), (1, 2), (2, 3), (3, 0)]

NO_FRAMES = [
    (1, []), (0, []), (-1, []), (-2147483648, []),
    (33, []), (40, [0, 1]), (2147483647, []),
    (1, [0, 1]), (0, [0, 1]), (-5, [0, 1]),
    (2, [0, 2]), (2, [2, 0]), (4, [0, 1, 1, 4]), (8, [0, 8]), (8, [255, 0]), (32, [31, 32]),
    (2, [0, 0]), (8, [7, 7]), (3, [0, 1, 1, 2, 2, 2]), (3, [5, 5]),
    (2, [0, 1, 0, 1]), (2, [0, 1, 1, 0]), (4, [3, 2, 0, 1, 2, 3]), (8, [6, 7, 0, 1, 0, 2, 6, 7]),
]


def flat(pairs):
    return [joint for pair in pairs for joint in pair]


def all_pairs(joints):
    return list(combinations(joints, 2))


def turned(pairs):
    return [(b, a) for a, b in pairs]


def shuffled(things, seed):
    """A mixing that is the same every time it runs."""
    rest = list(things)
    mixed = []
    while rest:
        seed = (seed * 1103515245 + 12345) % 2147483648
        mixed.append(rest.pop((seed >> 8) % len(rest)))
    return mixed


@lru_cache(maxsize=1024)
def most_chosen(bars):
    """Over all choices of these bars (a mask of joints each): the most that are chosen, by which joints they touch."""
    if not bars:
        return {0: 0}
    without = most_chosen(bars[:-1])
    most = dict(without)
    for touched, many in without.items():
        now = touched | bars[-1]
        most[now] = max(most.get(now, 0), many + 1)
    return most


def in_order(pairs):
    bars = tuple(dict.fromkeys((1 << a) | (1 << b) for a, b in pairs))
    return all(many <= 2 * touched.bit_count() - 3 for touched, many in most_chosen(bars).items() if touched)


def in_order_one_by_one(pairs):
    """The same as in_order, each choice of bars by itself."""
    choices = [some for many in range(1, len(pairs) + 1) for some in combinations(pairs, many)]
    return all(len(some) <= 2 * len(set(flat(some))) - 3 for some in choices)


def counted_kept(pairs):
    kept = []
    for i, pair in enumerate(pairs):
        if in_order([pairs[k] for k in kept] + [pair]):
            kept.append(i)
    return kept


def count_and_mask(numbers):
    """How many bars, then their mask."""
    return [len(numbers)] + [sum(1 << (i - 32 * w) for i in numbers if i // 32 == w) for w in range(3)]


def kept_by_words(pairs):
    """What ri_kept is to answer."""
    return count_and_mask(counted_kept(pairs))


def holds_by_words(u, v, pairs):
    """What ri_holds is to answer where u and v are two joints of the frame."""
    kept = counted_kept(pairs)
    if {u, v} in [set(pairs[i]) for i in kept] or in_order([pairs[i] for i in kept] + [(u, v)]):
        return [-3]
    return count_and_mask([i for i in kept if in_order([pairs[k] for k in kept if k != i] + [(u, v)])])


def spare_by_words(pairs):
    """What ri_spare is to answer."""
    many = len(counted_kept(pairs))
    return count_and_mask([i for i in range(len(pairs)) if len(counted_kept(pairs[:i] + pairs[i + 1:])) == many])


def parts_by_words(n, pairs):
    """What ri_parts is to answer where most is high enough."""
    kept = [tuple(sorted(pairs[i])) for i in counted_kept(pairs)]
    fixed = {pair: pair in kept or not in_order(kept + [pair]) for pair in all_pairs(range(n))}

    def is_set(joints):
        return len(joints) >= 2 and all(fixed[pair] for pair in all_pairs(joints))

    masks = []
    for mask in range(1 << n):
        joints = [v for v in range(n) if mask >> v & 1]
        others = [v for v in range(n) if not mask >> v & 1]
        if is_set(joints) and not any(is_set(sorted(joints + [v])) for v in others):
            masks.append(mask)
    return [len(masks)] + masks


def small_frames():
    """(n, pairs): every frame of up to 4 joints in three orders, and a walk through the larger ones up to 8."""
    for n in (2, 3, 4):
        pairs = all_pairs(range(n))
        for chosen in range(1 << len(pairs)):
            bars = [pair for i, pair in enumerate(pairs) if chosen >> i & 1]
            yield n, bars
            yield n, turned(bars[::-1])
            yield n, shuffled(bars, chosen)
    for n in (5, 6, 7, 8):
        pairs = all_pairs(range(n))
        for seed in range(40):
            mixed = shuffled(pairs, 97 * n + seed)
            some = mixed[: 1 + seed * len(pairs) // 40]
            yield n, [pair if (seed + i) % 2 else pair[::-1] for i, pair in enumerate(some)]


class Untouched(list):
    """A list that fails when it is changed, be it for a while."""

    def refuse(self, *args, **kwargs):
        raise AssertionError("what was handed in was changed")

    __setitem__ = __delitem__ = __iadd__ = __imul__ = refuse
    append = clear = extend = insert = pop = remove = reverse = sort = refuse
