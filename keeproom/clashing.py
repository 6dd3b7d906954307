"""Which demands, promises and devices orders can be made of, so that they can be kept at a node.

A set of numbers is an ascending tuple.
"""

from keeproom.arenas import arena
from keeproom.grounds import Ground, has
from keeproom.stages import room_stages


def clashes_at(plant, orders, node, there):
    """The clashes of some orders at a node, there being the devices that are possible."""
    nodes = arena(plant, orders)
    demands = list(range(len(orders["never"]) + len(orders["again"])))
    sets = _sets_of(demands)
    together = [chosen for chosen in sets if _can_be_kept(nodes, _with_demands(orders, chosen), node)]
    return {
        "least": _least_of([chosen for chosen in sets if chosen not in together]),
        "greatest": _greatest_of(together),
        "promises": _least_of([
            chosen for chosen in _sets_of(orders["promises"])
            if _can_be_kept(nodes, _with_one(orders, "promises", chosen), node)]),
        "devices": _greatest_of([
            chosen for chosen in _sets_of(there)
            if len(chosen) > 0 and _can_be_kept_by(plant, _with_one(orders, "devices", chosen), node)]),
    }


def _can_be_kept(nodes, orders, node):
    """Whether a node is one of the room's, by the nodes of the arena of the orders."""
    return has(room_stages(Ground(nodes, orders))[-1], node)


def _can_be_kept_by(plant, orders, node):
    """Whether a node is one of the room's for some orders."""
    return _can_be_kept(arena(plant, orders), orders, node)


def _with_demands(orders, chosen):
    """The orders with the chosen ones of their demands alone."""
    many = len(orders["never"])
    changed = dict(orders)
    changed["never"] = tuple([orders["never"][demand] for demand in chosen if demand < many])
    changed["again"] = tuple([orders["again"][demand - many] for demand in chosen if demand >= many])
    return changed


def _with_one(orders, key, chosen):
    """The orders with a chosen set in one place."""
    changed = dict(orders)
    changed[key] = chosen
    return changed


def _sets_of(numbers):
    """All sets of some ascending numbers, in the order of sets: those without the least number come first."""
    sets = [()]
    for number in numbers[::-1]:
        sets = sets + [(number,) + chosen for chosen in sets]
    return sets


def _least_of(sets):
    """Those of the sets of which no other one is a part."""
    return [chosen for chosen in sets if not any([_is_proper_part(other, chosen) for other in sets])]


def _greatest_of(sets):
    """Those of the sets that are a part of no other one."""
    return [chosen for chosen in sets if not any([_is_proper_part(chosen, other) for other in sets])]


def _is_proper_part(chosen, other):
    """Whether a set is a part of another one, and not the same."""
    return chosen != other and all([number in other for number in chosen])
