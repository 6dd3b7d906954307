"""The stages by which the room's nodes are found: lists of sets of nodes, the last one being what is looked for.

The letters z, y and x are those of the document: the sets that one wants to go into.
"""


def can_go(ground, into):
    """The set of the nodes from which one can go into a set of nodes."""
    found = 0
    for node, ways in enumerate(ground.ways):
        inside = ways & into
        if inside == ways or ground.mine[node] and inside != 0:
            found += 1 << node
    return found


def room_stages(ground):
    """The stages of the room's nodes."""
    return _until_nothing_changes(ground.everywhere, lambda z: _middle_for_all(ground, z))


def middle_stages(ground, z, goal):
    """The stages of the middle nodes."""
    return _until_nothing_changes(0, lambda y: _inner_for_some(ground, z, y, goal))


def inner_stages(ground, z, y, goal, promise):
    """The stages of the inner nodes."""
    good = ground.everywhere - ground.bad
    sure = good & (ground.goals[goal] & can_go(ground, z) | can_go(ground, y))
    waiting = good - (good & ground.promises[promise])
    return _until_nothing_changes(ground.everywhere, lambda x: sure | waiting & can_go(ground, x))


def _middle_for_all(ground, z):
    """The set of the nodes that are middle for every goal."""
    found = ground.everywhere
    for goal in range(len(ground.goals)):
        found = found & middle_stages(ground, z, goal)[-1]
    return found


def _inner_for_some(ground, z, y, goal):
    """The set of the nodes that are inner for some promise."""
    found = 0
    for promise in range(len(ground.promises)):
        found = found | inner_stages(ground, z, y, goal, promise)[-1]
    return found


def _until_nothing_changes(first, change):
    """A first set of nodes, and then what there is after each change."""
    stages = [first]
    after = change(first)
    while after != stages[-1]:
        stages.append(after)
        after = change(after)
    return stages
