"""A slow and plain reading of the document's rooms and others, over models of whole rows."""

import itertools
from fractions import Fraction

from keeproom import errors
from tests.games import KEYS, Game, may_be_made, slow_arena, slow_fault, slow_papers
from tests.oracles import Model, reached, text_of


class World:
    """A plant; what was worked out for some orders is remembered."""

    def __init__(self, names, devices, trees):
        self.parts = (names, devices, trees)
        self.names, self.devices, self.trees = self.parts
        self.found = reached(*self.parts)
        self.shapes = list(self.found)
        self.arenas = {}
        self.games = {}

    def model(self, row):
        return Model(*self.parts, row)

    def number(self, model):
        return self.shapes.index(model.shape())

    def nodes(self, orders):
        if orders["devices"] not in self.arenas:
            self.arenas[orders["devices"]] = slow_arena(*self.parts, orders)
        return self.arenas[orders["devices"]]

    def rooms(self, orders):
        key = ("rooms", *[orders[key] for key in KEYS])
        if key not in self.games:
            self.games[key] = Game(self.nodes(orders), orders).rooms()[-1]
        return self.games[key]

    def papers(self, orders):
        key = ("papers", *[orders[key] for key in KEYS])
        if key not in self.games:
            self.games[key] = slow_papers(self.nodes(orders), orders)
        return self.games[key]

    def refuse(self, orders):
        many = {key: len(self.devices if key == "devices" else self.trees) for key in KEYS}
        for key in KEYS:
            if list(orders[key]) != sorted(set(orders[key]) & set(range(many[key]))):
                raise errors.OrdersError()

    def read(self, row):
        for at, (name, text) in enumerate(row):
            try:
                good = name in self.names and str(Fraction(text)) == text
            except (ValueError, ZeroDivisionError):
                good = False
            if not good:
                raise errors.RowError(at)
        return [(name, Fraction(text)) for name, text in row]


def possible(model):
    return tuple(at for at, stands in enumerate(model.stands) if stands is not None)


def spots(model):
    """The numbers for all positions, in order."""
    numbers = model.numbers()
    if not numbers:
        return [Fraction(0)]
    found = [numbers[0] - 1, numbers[0]]
    for a, b in itertools.pairwise(numbers):
        found += [(a + b) / 2, b]
    return found + [numbers[-1] + 1]


def goals_of(game, orders):
    return orders["again"] or ("all",)


class SlowRoom:
    def __init__(self, world, orders):
        self.world = world
        self.model = world.model([])
        world.refuse(orders)
        self.check_can(orders)
        self.put(orders)
        self.events = [("orders", orders)]
        self.resumed = False

    def put(self, orders):
        self.orders, self.given, self.turn, self.since = orders, self.world.papers(orders), 0, 0

    def left(self, orders=None):
        return tuple(at for at in (orders or self.orders)["devices"] if at in possible(self.model))

    def node(self):
        return self.world.number(self.model)

    def check_can(self, orders):
        if not self.left(orders):
            raise errors.NothingPossible()
        if self.node() not in self.world.rooms(orders):
            raise errors.CannotKeep()

    def hear(self, row):
        records = self.world.read(row)
        if len(self.events) + len(records) > 200:
            raise errors.JournalFull()
        for name, number in records:
            game = Game(self.world.nodes(self.orders), self.orders)
            if self.node() in game.goals[self.turn]:
                self.turn, self.since = (self.turn + 1) % len(game.goals), 0
            else:
                self.since += 1
            self.model = self.world.model(self.model.row + [(name, number)])
            self.events.append(("record", name, str(number)))

    def state(self):
        return {"mine": self.model.mine, "possible": possible(self.model), "left": self.left(),
                "answers": tuple(text_of(answer) for answer in self.model.answers),
                "can": bool(self.left()) and self.node() in self.world.rooms(self.orders), "orders": self.orders}

    def check_move(self):
        if not self.model.mine:
            raise errors.NotItsTurn()
        if not self.left():
            raise errors.NothingPossible()
        if not self.given["wins"][self.node()]:
            raise errors.CannotKeep()

    def move(self):
        self.check_move()
        moves = self.world.nodes(self.orders)[self.node()]["moves"]
        number = (self.given["good"][self.node()] + [(0, 0, 0)] * 9)[self.turn][2]
        move = moves[number] if number in range(len(moves)) else moves[0]
        return (move[0], str(spots(self.model)[move[1]]))

    def play(self):
        record = self.move()
        self.hear([record])
        return record

    def is_safe(self, name, number):
        after = self.world.model(self.model.row + [(name, number)])
        return (may_be_made(self.model, after, self.orders["devices"])
                and self.world.number(after) in self.world.rooms(self.orders))

    def safe(self):
        if not self.model.mine:
            raise errors.NotItsTurn()
        return [(name, str(number)) for name in self.world.names for number in spots(self.model)
                if self.is_safe(name, number)]

    def pass_by(self, record, patience):
        [(name, number)] = self.world.read([record])
        self.check_move()
        return record if self.since < patience and self.is_safe(name, number) else self.move()

    def order(self, orders):
        self.world.refuse(orders)
        self.check_can(orders)
        if len(self.events) == 200:
            raise errors.JournalFull()
        self.put(orders)
        self.events.append(("orders", orders))

    def would(self, orders):
        self.world.refuse(orders)
        return bool(self.left(orders)) and self.node() in self.world.rooms(orders)

    def trust(self, given):
        nodes = self.world.nodes(self.orders)
        if {len(given[key]) for key in ("wins", "good", "evil")} != {len(nodes)}:
            raise errors.PapersError()
        if slow_fault(nodes, self.orders, given) is not None:
            raise errors.PapersError()
        self.given = given

    # Points 38 and 39.

    def keeps(self, demands=None, promises=None, devices=None):
        orders = dict(self.orders)
        if demands is not None:
            never = self.orders["never"]
            orders["never"] = tuple(question for at, question in enumerate(never) if at in demands)
            orders["again"] = tuple(question for at, question in enumerate(self.orders["again"])
                                    if at + len(never) in demands)
        if promises is not None:
            orders["promises"] = promises
        if devices is not None:
            orders["devices"] = devices
        return self.node() in self.world.rooms(orders)

    def clashes(self):
        demands = sets_of(range(len(self.orders["never"]) + len(self.orders["again"])))
        can = {chosen: self.keeps(demands=chosen) for chosen in demands}
        promised = {chosen: self.keeps(promises=chosen) for chosen in sets_of(self.orders["promises"])}
        by_devices = {chosen: self.keeps(devices=chosen) for chosen in sets_of(possible(self.model)) if chosen}
        return {
            "least": [a for a in can if not can[a] and all(can[b] for b in can if set(b) < set(a))],
            "greatest": [a for a in can if can[a] and not any(can[b] for b in can if set(a) < set(b))],
            "promises": [a for a in promised if promised[a] and not any(promised[b] for b in promised
                                                                        if set(b) < set(a))],
            "devices": [a for a in by_devices if by_devices[a] and not any(by_devices[b] for b in by_devices
                                                                           if set(a) < set(b))]}

    # Point 40.

    def apart(self, i, j):
        if not {i, j} <= set(range(len(self.world.devices))):
            raise errors.NoSuch()
        models = list(self.world.found.values())
        return self.least(lambda at: not {i, j} <= set(possible(models[at])))

    def soonest(self, q):
        if q not in range(len(self.world.trees)):
            raise errors.NoSuch()
        return self.least(lambda at: self.world.nodes(self.orders)[at]["answers"][q])

    def least(self, is_so):
        nodes = self.world.nodes(self.orders)
        bad = Game(nodes, self.orders).bad
        within = [{at for at in range(len(nodes)) if at not in bad and is_so(at)}]
        for _ in nodes:
            within.append({at for at in range(len(nodes)) if at not in bad and (
                at in within[-1] or (any if nodes[at]["mine"] else all)(
                    after in within[-1] for _, _, after in nodes[at]["moves"]))})
        return next((moves for moves, found in enumerate(within) if self.node() in found), None)

    def kept(self):
        return {"place": self.node(), "numbers": tuple(map(str, self.model.numbers())), "orders": self.orders,
                "turn": self.turn, "since": self.since}


def sets_of(numbers):
    """All sets of numbers, in the order of point 38."""
    found = [chosen for many in range(len(numbers) + 1) for chosen in itertools.combinations(numbers, many)]
    return sorted(found, key=lambda chosen: [number in chosen for number in range(9)])


class SlowOthers:
    def __init__(self, world, orders, row):
        self.world = world
        self.orders = orders
        world.refuse(orders)
        self.model = world.model(world.read(row))
        if not set(possible(self.model)) & set(orders["devices"]):
            raise errors.NothingPossible()
        if world.number(self.model) in world.rooms(orders):
            raise errors.CanKeep()
        self.turn = 0

    def hear(self, record):
        [(name, number)] = self.world.read([record])
        game = Game(self.world.nodes(self.orders), self.orders)
        if self.world.number(self.model) in game.promises[self.turn]:
            self.turn = (self.turn + 1) % len(game.promises)
        self.model = self.world.model(self.model.row + [(name, number)])

    def move(self):
        if self.model.mine:
            raise errors.NotItsTurn()
        at = self.world.number(self.model)
        moves = self.world.nodes(self.orders)[at]["moves"]
        choice = self.world.papers(self.orders)["evil"][at]["choice"][self.turn]
        name, position, _ = moves[choice] if choice in range(len(moves)) else moves[0]
        return (name, str(spots(self.model)[position]))


def outcome(call, *arguments):
    """What a call returns, or which error it raises."""
    try:
        return ("returned", call(*arguments))
    except errors.KeeproomError as error:
        return ("raised", error.__class__, vars(error))
