"""The judge, who checks papers: node by node, each one only beside those to which it leads."""

from keeproom.grounds import has


def first_fault(ground, given):
    """None if the papers hold for a ground, otherwise the first fault."""
    for node, is_won in enumerate(given["wins"]):
        fault = _fault_if_won(ground, given, node) if is_won else _fault_if_lost(ground, given, node)
        if fault is not None:
            return fault
    return None


def _fault_if_won(ground, given, node):
    """None if a node that the papers tell to be the room's holds for each goal, otherwise the first fault."""
    for goal in range(len(ground.goals)):
        if not _holds_for_goal(ground, given, node, goal):
            return ("good", node, goal)
    return None


def _fault_if_lost(ground, given, node):
    """None if any other node holds for each promise, otherwise the first fault."""
    if given["evil"][node]["goal"] >= len(ground.goals):
        return ("evil", node, 0)
    for promise in range(len(ground.promises)):
        if not _holds_for_promise(ground, given, node, promise):
            return ("evil", node, promise)
    return None


def _holds_for_goal(ground, given, node, goal):
    """Whether a node that the papers tell to be the room's holds for a goal."""
    rank, promise, move = _good(given, node, goal)
    comes = _where_one_comes(ground, node, move if ground.mine[node] else None)
    if has(ground.bad, node) or len(comes) == 0 or not all([given["wins"][after] for after in comes]):
        return False
    if has(ground.goals[goal], node):
        return True
    is_kept = promise >= len(ground.promises) or has(ground.promises[promise], node)
    for after in comes:
        there = _good(given, after, goal)[:2]
        if there > (rank, promise) or there == (rank, promise) and is_kept:
            return False
    return True


def _holds_for_promise(ground, given, node, promise):
    """Whether any other node holds for a promise."""
    if has(ground.bad, node):
        return True
    here = given["evil"][node]
    comes = _where_one_comes(ground, node, None if ground.mine[node] else _at(here["choice"], promise, 0))
    if len(comes) == 0 or any([given["wins"][after] for after in comes]):
        return False
    for after in comes:
        there = given["evil"][after]
        if (there["rank"], there["goal"]) > (here["rank"], here["goal"]):
            return False
        if (there["rank"], there["goal"]) == (here["rank"], here["goal"]):
            nearer = _at(there["far"], promise, 0) < _at(here["far"], promise, 0)
            if has(ground.goals[here["goal"]], node) or not (has(ground.promises[promise], node) or nearer):
                return False
    return True


def _good(given, node, goal):
    """The tuple (rank, promise, move) that is told for a node and a goal."""
    return _at(given["good"][node], goal, (0, 0, 0))


def _at(told, index, missing):
    """The element of a list, or what is read in its place if the list is too short."""
    return told[index] if index < len(told) else missing


def _where_one_comes(ground, node, move):
    """The nodes after a move, or after any move if it is None; none if there is no such move."""
    after = ground.after[node]
    if move is None:
        return after
    return after[move:move + 1]
