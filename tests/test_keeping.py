"""Points 2, 25 and 33 to 37 of the document: what rooms and others bring about, against all that may come.

What a room or others do depends on the node, on whose turn it is among the goals or promises, and on the count (as
far as it is not above the patience). So all plays are walks in a graph over these, and a play in which something
comes again and again, and something else does not, is a circle in it.
"""

import copy
import unittest
from fractions import Fraction

from keeproom.arenas import arena, can
from keeproom.others import Others
from keeproom.papers import papers
from keeproom.plants import Plant
from keeproom.questions import write_question
from keeproom.rooms import Room, resume
from tests.games import change_papers, random_orders, random_plant
from tests.oracles import lucky
from tests.slowrooms import outcome


def circles(graph):
    """The largest sets of spots between each two of which there are ways both to and fro."""
    reach = {spot: set(after) for spot, after in graph.items()}
    for middle in graph:
        for spot in graph:
            if middle in reach[spot]:
                reach[spot] |= reach[middle]
    found = {frozenset(other for other in reach[spot] if spot in reach[other]) for spot in graph}
    return [circle for circle in found if circle]


def without(graph, spots_out):
    return {spot: after - spots_out for spot, after in graph.items() if spot not in spots_out}


class Plays:
    """The graph of all plays from a start, and where questions answer in it."""

    def __init__(self, start, key, follow):
        """Follow tells all that may come after one spot: new ones."""
        self.graph = {}
        self.starts = {}
        waiting = [start]
        while waiting:
            one = waiting.pop()
            spot = key(one)
            if spot in self.graph:
                continue
            self.starts[spot] = one
            after = follow(one)
            self.graph[spot] = {key(other) for other in after}
            waiting += after

    def answering(self, node_of, nodes, question):
        return {spot for spot in self.graph if nodes[node_of(spot)]["answers"][question]}


def records_of(kept, moves):
    """The records of moves at a place with these numbers."""
    numbers = kept["numbers"]
    told = []
    for name, position, _ in moves:
        if position % 2 == 1:
            text = numbers[position // 2]
        else:
            # Any number with this position will do; these are made in another way than the program makes them.
            low = numbers[position // 2 - 1] if position > 0 else None
            high = numbers[position // 2] if position // 2 < len(numbers) else None
            text = between(low, high)
        told.append((name, text))
    return told


def between(low, high):
    if low is None and high is None:
        return "0"
    if low is None:
        return str(Fraction(high) - 3)
    if high is None:
        return str(Fraction(low) + 3)
    return str((Fraction(low) * 2 + Fraction(high)) / 3)


class KeepingTest(unittest.TestCase):
    def plants(self, seed, many, most=14):
        luck = lucky(seed)
        for _ in range(many):
            names, devices, trees = random_plant(luck, most)
            plant = Plant(names, devices, tuple(write_question(tree) for tree in trees))
            for _ in range(3):
                yield luck, plant, random_orders(luck, len(devices), len(trees), 0.6)

    def rooms(self, seed, many):
        """Rooms that have heard nothing, with plants, orders, and nodes."""
        for luck, plant, orders in self.plants(seed, many):
            how, *room = outcome(Room, plant, orders)
            self.assertEqual(how == "returned", can(plant, orders, []))
            if how == "returned":
                yield luck, plant, orders, arena(plant, orders), room[0]

    def check_kept(self, plant, orders, nodes, room, respond, most):
        """All plays against a room that makes what respond tells (a list of records, any of which may be made)."""
        def key(one):
            kept = one.kept()
            return (kept["place"], kept["turn"], min(kept["since"], most))

        def follow(one):
            state, kept = one.state(), one.kept()
            self.assertIs(state["can"], True)
            records = respond(one) if state["mine"] else records_of(kept, nodes[kept["place"]]["moves"])
            after = []
            for record in records:
                other = one.twin()
                other.hear([record])
                if state["mine"]:
                    # All devices that are left allow what the room makes, since each may be the true one.
                    self.assertEqual(other.state()["left"], state["left"])
                if other.state()["left"]:
                    after.append(other)
            self.assertGreater(len(after), 0)
            return after

        plays = Plays(room, key, follow)
        for question in orders["never"]:
            self.assertEqual(plays.answering(lambda spot: spot[0], nodes, question), set())
        for goal in orders["again"]:
            # A play in which the goal is not met any more, but each promise is kept again and again.
            met = plays.answering(lambda spot: spot[0], nodes, goal)
            for circle in circles(without(plays.graph, met)):
                kept = [plays.answering(lambda spot: spot[0], nodes, promise) & circle for promise in orders["promises"]]
                self.assertFalse(all(kept), (plant, orders))
        return len(plays.graph)

    def test_rooms_keep_their_orders(self):
        seen = 0
        for _, plant, orders, nodes, room in self.rooms(33, 60):
            seen += self.check_kept(plant, orders, nodes, room, lambda one: [one.move()], 0) > 4
        self.assertGreater(seen, 20)

    def test_what_is_passed_keeps_them_with_any_patience(self):
        for luck, plant, orders, nodes, room in self.rooms(35, 30):
            patience = luck.choice((0, 1, 2, 3))

            def respond(one):
                kept = one.kept()
                numbers = 2 * len(kept["numbers"]) + 1
                moves = [(name, position, 0) for name in plant.names for position in range(numbers)]
                return [one.pass_by(record, patience) for record in records_of(kept, moves)]

            self.check_kept(plant, orders, nodes, room, respond, patience)

    def test_papers_that_are_trusted_keep_them(self):
        changed = 0
        for luck, plant, orders, nodes, room in self.rooms(37, 60):
            for _ in range(6):
                given = papers(plant, orders)
                own = copy.deepcopy(given)
                change_papers(luck, given)
                if outcome(room.trust, given)[0] == "returned" and given["good"] != own["good"]:
                    changed += 1
                    self.check_kept(plant, orders, nodes, room, lambda one: [one.move()], 0)
        self.assertGreater(changed, 20)

    def test_orders_that_are_turned_are_kept_from_then_on(self):
        turned = 0
        for luck, plant, orders, nodes, room in self.rooms(36, 40):
            for _ in range(luck.randint(1, 5)):
                if room.state()["mine"]:
                    room.play()
                else:
                    room.hear([luck.choice(records_of(room.kept(), nodes[room.kept()["place"]]["moves"]))])
            others = random_orders(luck, len(plant.devices), len(plant.trees), 0.6)
            if outcome(room.order, others)[0] == "returned":
                turned += 1
                self.check_kept(plant, others, arena(plant, others), room, lambda one: [one.move()], 0)
        self.assertGreater(turned, 8)

    def test_others_keep_any_room_from_it(self):
        seen = 0
        for luck, plant, orders in self.plants(34, 60):
            how, *others = outcome(Others, plant, orders, [])
            if how == "raised":
                continue
            seen += 1
            nodes = arena(plant, orders)
            self.check_prevented(plant, orders, nodes, others[0])
        self.assertGreater(seen, 20)

    def check_prevented(self, plant, orders, nodes, others):
        """All plays of these others against a room that makes anything that all devices that are left allow.

        If it makes anything else, one of them does not allow it.
        """
        def key(one):
            return (one[1]["place"], one[0]._turn)

        def follow(one):
            beside, kept = one
            node = nodes[kept["place"]]
            self.assertIs(can_here(kept), False)
            if node["stuck"] or any(node["answers"][question] for question in orders["never"]):
                return []
            if node["mine"]:
                records = records_of(kept, node["moves"])
            else:
                records = [beside.move()]
                # Some device that is left allows what they make.
                self.assertIn(records[0][0], [move[0] for move in node["moves"]])
            after = []
            for record in records:
                other, room = copy.deepcopy(beside), resume(plant, kept)
                other.hear(record)
                room.hear([record])
                if not node["mine"]:
                    self.assertNotEqual(room.state()["left"], ())
                after.append((other, room.kept()))
            return after

        def can_here(kept):
            return resume(plant, kept).state()["can"]

        room = resume(plant, {"place": 0, "numbers": (), "orders": orders, "turn": 0, "since": 0})
        plays = Plays((others, room.kept()), key, follow)
        for promise in orders["promises"]:
            # There is no play without bad nodes in which a promise is not kept again and again.
            kept = plays.answering(lambda spot: spot[0], nodes, promise)
            self.assertEqual(circles(without(plays.graph, kept)), [])
        for circle in circles(plays.graph):
            # And in each such play there is a goal that is not met again and again.
            met = [plays.answering(lambda spot: spot[0], nodes, goal) & circle for goal in orders["again"]]
            self.assertFalse(all(met))


if __name__ == "__main__":
    unittest.main()
