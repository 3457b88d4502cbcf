"""The least cost by which editions can be kept, each whole or by a patch of another one."""

from itertools import combinations


def least_of(names, wholes, patches):
    """Tell (cost, bases), told what each costs whole, and by the patch (base, name) of each other one."""
    # However they are kept, they can be laid in one by one, each behind its base. So the least cost
    # of some is that of all but the last one, and the least of this one with a base among those.
    best = {(): (0, {})}
    for many in range(1, len(names) + 1):
        for some in combinations(names, many):
            ways = [with_last(best, some, last, wholes, patches) for last in some]
            best[some] = min(ways, key=lambda way: way[0])
    return best[tuple(names)]


def with_last(best, some, last, wholes, patches):
    """Tell (cost, bases) of some names, told the best of fewer, if this one is laid in last."""
    others = tuple([name for name in some if name != last])
    cost, bases = best[others]
    worth, base = wholes[last], None
    for other in others:
        if patches[other, last] < worth:
            worth, base = patches[other, last], other
    return cost + worth, {**bases, last: base}
