"""Merging of two sets of methods that came out of the same one."""


def merge(base, mine, theirs):
    """The methods that come of both sides, and the pairs about which these are in conflict."""
    result = {}
    conflicts = []
    for pair in sorted(set(base) | set(mine) | set(theirs)):
        # None stands for nothing, which may be what a side has.
        ours, left, right = base.get(pair), mine.get(pair), theirs.get(pair)
        chosen = ours
        if left == right or right == ours:
            chosen = left
        elif left == ours:
            chosen = right
        else:
            conflicts.append(pair)
        if chosen is not None:
            result[pair] = chosen
    return (result, conflicts)
