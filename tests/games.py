"""Slow and plain readings of the document's arenas and papers, and another way to tell the room's nodes."""

import itertools

from tests.oracles import random_device, random_tree, reached

KEYS = ("devices", "never", "again", "promises")


def orders_of(devices=(0,), never=(), again=(), promises=()):
    return {"devices": devices, "never": never, "again": again, "promises": promises}


# Points 21 and 22.

def slow_arena(names, devices, trees, orders):
    """The arena of a plant that is not refused."""
    found = reached(names, devices, trees)
    shapes = list(found)
    nodes = []
    for number, model in enumerate(found.values()):
        spots = itertools.product(names, range(2 * len(model.numbers()) + 1))
        moves = [(name, position, shapes.index(after.shape()))
                 for (name, position), after in zip(spots, model.next_ones())
                 if may_be_made(model, after, orders["devices"])]
        nodes.append({
            "mine": model.mine, "answers": tuple(answer is not None for answer in model.answers),
            "stuck": model.mine and not moves, "moves": moves or [(names[0], 0, number)]})
    return nodes


def may_be_made(before, after, assumed):
    left = [device for device in assumed if before.stands[device] is not None]
    still = [device for device in left if after.stands[device] is not None]
    return bool(left and left == still) if before.mine else bool(still)


# Points 23 and 24, with sets of the numbers of nodes.

class Game:
    def __init__(self, nodes, orders):
        self.nodes = nodes
        self.all = set(range(len(nodes)))
        self.goals = [self.answering(question) for question in orders["again"]] or [self.all]
        self.promises = [self.answering(question) for question in orders["promises"]] or [self.all]
        self.bad = {at for at in self.all if nodes[at]["stuck"]}.union(
            *[self.answering(question) for question in orders["never"]])

    def answering(self, question):
        return {at for at in self.all if self.nodes[at]["answers"][question]}

    def after(self, at):
        return [move[2] for move in self.nodes[at]["moves"]]

    def can_go(self, at, into):
        return (any if self.nodes[at]["mine"] else all)(after in into for after in self.after(at))

    def ring(self, z, y, x, goal, promise):
        return {at for at in self.all if at not in self.bad and (
            at in self.goals[goal] and self.can_go(at, z) or self.can_go(at, y)
            or at not in self.promises[promise] and self.can_go(at, x))}

    def inner(self, z, y, goal, promise):
        return stages(self.all, lambda x: self.ring(z, y, x, goal, promise))

    def middle(self, z, goal):
        return stages(set(), lambda y: set().union(
            *[self.inner(z, y, goal, promise)[-1] for promise in range(len(self.promises))]))

    def rooms(self):
        return stages(self.all, lambda z: self.all.intersection(
            *[self.middle(z, goal)[-1] for goal in range(len(self.goals))]))


def stages(first, change):
    found = [first]
    while change(found[-1]) != found[-1]:
        found.append(change(found[-1]))
    return found


# Point 30.

def slow_papers(nodes, orders):
    game = Game(nodes, orders)
    rooms = game.rooms()
    return {"wins": [at in rooms[-1] for at in range(len(nodes))],
            "good": [[slow_good(game, rooms[-1], at, goal) for goal in range(len(game.goals))]
                     for at in range(len(nodes))],
            "evil": [slow_evil(game, rooms, at) for at in range(len(nodes))]}


def first_or(many, flags):
    return next((at for at, flag in enumerate(flags) if flag), many)


def first_move(game, at, fits):
    return first_or(len(game.after(at)), [fits(after) for after in game.after(at)])


def slow_good(game, z, at, goal):
    middles = game.middle(z, goal)
    rank = first_or(len(middles), [at in stage for stage in middles])
    y = middles[max(rank - 1, 0)]
    inners = [game.inner(z, y, goal, promise)[-1] for promise in range(len(game.promises))]
    promise = first_or(0, [at in inner for inner in inners])
    if at in game.goals[goal] and game.can_go(at, z):
        return (rank, promise, first_move(game, at, lambda after: after in z))
    if game.can_go(at, y):
        return (rank, promise, first_move(game, at, lambda after: after in y))
    return (rank, promise, first_move(game, at, lambda after: after in inners[promise]))


def slow_evil(game, rooms, at):
    rank = first_or(len(rooms), [at not in stage for stage in rooms])
    z = rooms[rank - 1]
    goal = first_or(0, [at not in game.middle(z, goal)[-1] for goal in range(len(game.goals))])
    y = game.middle(z, goal)[-1]
    far, choice = [], []
    for promise in range(len(game.promises)):
        inners = game.inner(z, y, goal, promise)
        far.append(first_or(len(inners), [at not in stage for stage in inners]))
        if at in game.goals[goal]:
            choice.append(first_move(game, at, lambda after: after not in z))
        elif at in game.promises[promise]:
            choice.append(first_move(game, at, lambda after: after not in y))
        else:
            choice.append(first_move(game, at, lambda after: after not in inners[far[promise] - 1]))
    return {"rank": rank, "goal": goal, "far": far, "choice": choice}


# Points 27 to 29.

def slow_fault(nodes, orders, given):
    game = Game(nodes, orders)
    for at in range(len(nodes)):
        if given["wins"][at]:
            for goal in range(len(game.goals)):
                if not won_holds(game, given, at, goal):
                    return ("good", at, goal)
        elif not given["evil"][at]["goal"] < len(game.goals):
            return ("evil", at, 0)
        else:
            for promise in range(len(game.promises)):
                if not lost_holds(game, given, at, promise):
                    return ("evil", at, promise)
    return None


def told(numbers, index):
    return (list(numbers) + [0] * 9)[index]


def told_good(given, at, goal):
    return (given["good"][at] + [(0, 0, 0)] * 9)[goal]


def won_holds(game, given, at, goal):
    if at in game.bad:
        return False
    rank, promise, move = told_good(given, at, goal)
    comes = game.after(at)
    if game.nodes[at]["mine"]:
        if not 0 <= move < len(comes):
            return False
        comes = [comes[move]]
    for u in comes:
        if not given["wins"][u]:
            return False
        u_rank, u_promise, _ = told_good(given, u, goal)
        is_less = u_rank < rank or u_rank == rank and u_promise < promise
        is_same = u_rank == rank and u_promise == promise
        kept = promise not in range(len(game.promises)) or at in game.promises[promise]
        if not (at in game.goals[goal] or is_less or is_same and not kept):
            return False
    return True


def lost_holds(game, given, at, promise):
    if at in game.bad:
        return True
    here = given["evil"][at]
    comes = game.after(at)
    if not game.nodes[at]["mine"]:
        choice = told(here["choice"], promise)
        if not 0 <= choice < len(comes):
            return False
        comes = [comes[choice]]
    for u in comes:
        if given["wins"][u]:
            return False
        there = given["evil"][u]
        is_less = there["rank"] < here["rank"] or there["rank"] == here["rank"] and there["goal"] < here["goal"]
        is_same = there["rank"] == here["rank"] and there["goal"] == here["goal"]
        kept = at in game.promises[promise]
        nearer = told(there["far"], promise) < told(here["far"], promise)
        if not (is_less or is_same and at not in game.goals[here["goal"]] and (kept or nearer)):
            return False
    return True


# Point 25, without the stages: a parity game over nodes, each with the goal and the promise that is waited for.

def room_wins(nodes, orders):
    """The nodes from which the room has a strategy with memory."""
    game = Game(nodes, orders)
    spots = list(itertools.product(game.all, range(len(game.goals)), range(len(game.promises))))
    after, value = {}, {}
    for at, goal, promise in spots:
        met, kept = at in game.goals[goal], at in game.promises[promise]
        later = ((goal + met) % len(game.goals), (promise + kept) % len(game.promises))
        after[at, goal, promise] = [(u, *later) for u in game.after(at)]
        if at in game.bad:
            after[at, goal, promise] = [(at, goal, promise)]
            value[at, goal, promise] = 1
        else:
            # 2 when all goals were met, 1 when all promises were kept since then: the greatest one seen again and
            # again tells who wins.
            all_met, all_kept = met and later[0] == 0, kept and later[1] == 0
            value[at, goal, promise] = 2 if all_met else 1 if all_kept else 0
    won = parity(set(spots), lambda spot: nodes[spot[0]]["mine"], after, value)
    return {at for at in game.all if (at, 0, 0) in won}


def attracted(spots, target, rooms, is_mine, after):
    """The spots from which one side, the room if rooms is True, can bring about that the target is come to."""
    found = set(target)
    while True:
        more = set()
        for spot in spots - found:
            ways = [way for way in after[spot] if way in spots]
            if (any if is_mine(spot) == rooms else all)(way in found for way in ways):
                more.add(spot)
        if not more:
            return found
        found |= more


def parity(spots, is_mine, after, value):
    """The spots that the room wins: those from which the greatest value seen again and again is even."""
    if not spots:
        return set()
    top = max(value[spot] for spot in spots)
    rooms = top % 2 == 0
    tops = attracted(spots, {spot for spot in spots if value[spot] == top}, rooms, is_mine, after)
    rest = spots - tops
    won = parity(rest, is_mine, after, value)
    others = rest - won if rooms else won
    if not others:
        return spots if rooms else set()
    taken = attracted(spots, others, not rooms, is_mine, after)
    won = parity(spots - taken, is_mine, after, value)
    return won if rooms else won | taken


# Random inputs.

def random_part(luck, many, chance=0.5):
    return tuple(at for at in range(many) if luck.random() < chance)


def random_orders(luck, devices, questions, chance=0.5):
    return orders_of(random_part(luck, devices, 0.8), random_part(luck, questions, (1 - chance) / 2),
                     random_part(luck, questions, chance), random_part(luck, questions, chance))


def random_nodes(luck, many, questions=3):
    """Nodes of an arena that need not be one of a plant's."""
    sides = [at % 2 == 1 for at in range(many)]
    nodes = []
    for at, mine in enumerate(sides):
        others = [other for other in range(many) if sides[other] != mine]
        stuck = mine and luck.random() < 0.05
        moves = [("a", number, luck.choice(others)) for number in range(luck.choice((1, 1, 2, 2, 3)))]
        nodes.append({"mine": mine, "answers": tuple(luck.random() < 0.35 for _ in range(questions)),
                      "stuck": stuck, "moves": [("a", 0, at)] if stuck else moves})
    return nodes


def random_plant(luck, most=24):
    """Names, devices and trees of a plant that is not refused, with at most this many shapes."""
    while True:
        names = luck.choice((("a",), ("a", "b"), ("b", "a")))
        devices = [random_device(luck, names) for _ in range(luck.randint(1, 3))]
        trees = [random_tree(luck, luck.randint(1, 3), names) for _ in range(luck.randint(0, 3))]
        if len(reached(names, devices, trees, most)) <= most:
            return names, devices, trees


def number_after(plant, word):
    """The number of the node after records with these names and one number."""
    return plant.point([(name, "1") for name in word])[1]


def change_papers(luck, given):
    """Changes papers at one place."""
    at = luck.randrange(len(given["wins"]))
    good, evil = given["good"], given["evil"][at]
    kind = luck.randrange(8)
    if kind == 0:
        given["wins"][at] = not given["wins"][at]
    elif kind == 1 and good[at]:
        goal = luck.randrange(len(good[at]))
        entry = list(good[at][goal])
        entry[luck.randrange(3)] = luck.randint(0, 4)
        good[at][goal] = tuple(entry)
    elif kind == 2:
        evil[luck.choice(("rank", "goal"))] = luck.randint(0, 4)
    elif kind == 3 and evil["far"] and evil["choice"]:
        numbers = evil[luck.choice(("far", "choice"))]
        numbers[luck.randrange(len(numbers))] = luck.randint(0, 4)
    elif kind == 4:
        del luck.choice((good[at], evil["far"], evil["choice"]))[-1:]
    elif kind == 5:
        luck.choice((evil["far"], evil["choice"])).append(luck.randint(0, 4))
    elif kind == 6:
        good[at].append((luck.randint(0, 4), luck.randint(0, 4), luck.randint(0, 4)))
    elif kind == 7:
        entry = luck.choice(given["good"])
        good[at] = list(entry)
