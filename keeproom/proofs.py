"""How papers are found, by the stages of the room's, the middle and the inner nodes.

The letters z, y and x are those of the document.
"""

from keeproom.grounds import has
from keeproom.stages import can_go, inner_stages, middle_stages, room_stages


def papers_for(ground):
    """The papers that hold for a ground: {"wins", "good", "evil"}."""
    stages = room_stages(ground)
    nodes = range(len(ground.mine))
    goals = [_good_of_goal(ground, stages[-1], goal) for goal in range(len(ground.goals))]
    faces = [_faces(ground, z) for z in stages]
    return {
        "wins": [has(stages[-1], node) for node in nodes],
        "good": [[good[node] for good in goals] for node in nodes],
        "evil": [_evil_at(ground, stages, faces, node) for node in nodes],
    }


def _good_of_goal(ground, z, goal):
    """For each node the tuple (rank, promise, move) of good for a goal."""
    stages = middle_stages(ground, z, goal)
    inner = [[sets[-1] for sets in _inner_of_promises(ground, z, y, goal)] for y in stages]
    good = []
    for node in range(len(ground.mine)):
        # Stage 0 has no nodes, so there always is a stage before.
        rank = _first([has(nodes, node) for nodes in stages])
        y = stages[rank - 1]
        promise = _first_or_0([has(nodes, node) for nodes in inner[rank - 1]])
        if has(ground.goals[goal] & can_go(ground, z), node):
            into = z
        elif has(can_go(ground, y), node):
            into = y
        else:
            into = inner[rank - 1][promise]
        good.append((rank, promise, _first([has(into, after) for after in ground.after[node]])))
    return good


def _inner_of_promises(ground, z, y, goal):
    """For each promise the stages of the inner nodes."""
    return [inner_stages(ground, z, y, goal, promise) for promise in range(len(ground.promises))]


def _faces(ground, z):
    """For each goal the middle nodes y for z, and for each promise the stages of the inner nodes for z and y."""
    faces = []
    for goal in range(len(ground.goals)):
        y = middle_stages(ground, z, goal)[-1]
        faces.append((y, _inner_of_promises(ground, z, y, goal)))
    return faces


def _evil_at(ground, stages, faces, node):
    """What evil tells at a node."""
    # Stage 0 has all nodes, so there always is a stage before; and so it is with the inner nodes.
    rank = _first([not has(nodes, node) for nodes in stages])
    goal = _first_or_0([not has(y, node) for y, _ in faces[rank - 1]])
    y, inner = faces[rank - 1][goal]
    far = [_first([not has(nodes, node) for nodes in sets]) for sets in inner]
    choice = []
    for promise, sets in enumerate(inner):
        if has(ground.goals[goal], node):
            shunned = stages[rank - 1]
        elif has(ground.promises[promise], node):
            shunned = y
        else:
            shunned = sets[far[promise] - 1]
        choice.append(_first([not has(shunned, after) for after in ground.after[node]]))
    return {"rank": rank, "goal": goal, "far": far, "choice": choice}


def _first(flags):
    """The index of the first True, or how many flags there are if there is none."""
    for at, flag in enumerate(flags):
        if flag:
            return at
    return len(flags)


def _first_or_0(flags):
    """The index of the first True, or 0 if there is none."""
    at = _first(flags)
    return at if at < len(flags) else 0
