"""Points 26 to 30 of the document: keeproom/papers.py."""

import collections
import copy
import unittest

from keeproom.arenas import arena
from keeproom.grounds import Ground
from keeproom.judge import first_fault
from keeproom.papers import check, papers
from keeproom.plants import Plant
from keeproom.proofs import papers_for
from keeproom.questions import write_question
from tests.games import (change_papers, number_after, orders_of, random_nodes, random_orders, random_plant, slow_fault,
                         slow_papers)
from tests.oracles import circling, lucky, place, saying

AB = ("a", "b")


def evil_of(rank, goal, far, choice):
    return {"rank": rank, "goal": goal, "far": far, "choice": choice}


def example():
    """The plant and the orders of the interface's example."""
    return Plant(("a",), [circling()], ("now",)), orders_of(again=(0,))


def lost_one():
    """The others may say a or b, the room a alone, and b is to be answered again and again."""
    return Plant(AB, [saying("ab", "a")], ("is(b)", "is(a)")), orders_of(again=(0,))


def far_one():
    """The others may say a at every fourth record alone, and the goal is never met."""
    device = [place(False, 0, ("c", 0, 1, ())), place(True, 0, ("c", 0, 2, ())),
              place(False, 0, ("c", 0, 3, ()), ("a", 0, 3, ())), place(True, 0, ("c", 0, 0, ()))]
    return Plant(("c", "a"), [device], ("nothing", "is(a)", "is(c)")), orders_of(again=(0,), promises=(1, 2))


def random_plants(luck, many):
    for _ in range(many):
        names, devices, trees = random_plant(luck)
        plant = Plant(names, devices, tuple(write_question(tree) for tree in trees))
        yield plant, random_orders(luck, len(devices), len(trees))


class PapersTest(unittest.TestCase):
    def test_the_example(self):
        self.assertEqual(papers(*example()), {
            "wins": [True, True, True], "good": [[(2, 0, 0)], [(1, 0, 0)], [(1, 0, 0)]],
            "evil": [evil_of(1, 0, [1], [1]), evil_of(1, 0, [1], [3]), evil_of(1, 0, [1], [3])]})

    def test_a_room_that_cannot(self):
        # 0: nothing yet; 1: a; 2: b; 3: ab; behind it the device is out: 4: aba, 5: abb, 6: abaa.
        # The stages of the room's nodes are: all, 2 and 3, 3 alone (where the others are, and cannot move).
        plant = Plant(AB, [saying("ab", "a")], ("is(b)",))
        words = ("", "a", "b", "ab", "aba", "abb", "abaa")
        self.assertEqual([number_after(plant, word) for word in words], list(range(7)))
        self.assertEqual(papers(plant, orders_of(again=(0,))), {
            "wins": [False, False, False, True, False, False, False],
            "good": [[(2, 0, 2)], [(2, 0, 1)], [(2, 0, 3)], [(1, 0, 0)], [(2, 0, 1)], [(2, 0, 1)], [(2, 0, 1)]],
            "evil": [
                evil_of(1, 0, [1], [0]), evil_of(1, 0, [1], [0]), evil_of(2, 0, [1], [0]), evil_of(3, 0, [2], [1]),
                evil_of(1, 0, [1], [0]), evil_of(1, 0, [1], [1]), evil_of(1, 0, [1], [0])]})

    def test_a_room_that_waits_for_a_promise(self):
        # The nodes are as above. All but the stuck ones are inner for the promise while there is no y.
        plant = Plant(AB, [saying("ab", "a")], ("is(b)",))
        told = papers(plant, orders_of(again=(0,), promises=(0,)))
        self.assertEqual(told["wins"], [True, True, True, True, False, False, True])
        self.assertEqual(told["good"], [[(1, 0, 0)]] * 4 + [[(2, 0, 1)]] * 2 + [[(1, 0, 0)]])

    def test_how_far_a_promise_is(self):
        plant, orders = far_one()
        told = papers(plant, orders)
        # For is(a): at cca it is kept; one comes there from cc, c, nothing yet, ccc. For is(c): at all but two of them.
        # Behind cc there is one number, so there are three moves with the name c, and a begins with move 3.
        for word, far, choice in (("cca", [1, 2], [0, 0]), ("cc", [2, 1], [3, 0]), ("c", [3, 1], [0, 0]),
                                  ("", [4, 2], [0, 0]), ("cccc", [4, 1], [0, 0]), ("ccc", [5, 1], [0, 0])):
            number = number_after(plant, word)
            self.assertEqual(told["evil"][number], evil_of(1, 0, far, choice), word)
            self.assertIs(told["wins"][number], False)

    def test_two_goals(self):
        # The room says a or b, as it likes; the others say c.
        plant = Plant(("a", "b", "c"), [saying("c", "ab")], ("is(a)", "is(b)"))
        told = papers(plant, orders_of(again=(0, 1)))
        numbers = [number_after(plant, word) for word in ("", "c", "ca", "cb")]
        self.assertEqual([told["wins"][number] for number in numbers], [True] * 4)
        # Behind a the first goal is met, behind b the second one; a is the room's move 0, b its move 1.
        self.assertEqual([told["good"][number] for number in numbers], [
            [(3, 0, 0), (3, 0, 0)], [(2, 0, 0), (2, 0, 1)], [(1, 0, 0), (3, 0, 0)], [(3, 0, 0), (1, 0, 0)]])

    def test_as_many_entries_as_there_are_goals_and_promises(self):
        plant = Plant(AB, [circling(AB)], ("is(a)", "is(b)", "is(a)"))
        for again in ((), (0,), (1, 2), (0, 1, 2)):
            for promises in ((), (2,), (0, 1), (0, 1, 2)):
                told = papers(plant, orders_of(again=again, promises=promises))
                self.assertEqual({len(good) for good in told["good"]}, {max(1, len(again))})
                self.assertEqual({len(evil["far"]) for evil in told["evil"]}, {max(1, len(promises))})
                self.assertEqual({len(evil["choice"]) for evil in told["evil"]}, {max(1, len(promises))})
                self.assertEqual({len(told[key]) for key in told}, {plant.shapes()})

    def test_no_assumed_device(self):
        plant = Plant(("a",), [saying("a", "a")], ("now",))
        # The others cannot move at nodes 0 and 2, where nothing is bad; the room is stuck at node 1.
        self.assertEqual(papers(plant, orders_of(())), {
            "wins": [True, False, True], "good": [[(1, 0, 0)], [(2, 0, 1)], [(1, 0, 0)]],
            "evil": [evil_of(2, 0, [2], [1]), evil_of(1, 0, [1], [1]), evil_of(2, 0, [2], [1])]})

    def test_plants_against_a_slow_reading(self):
        for plant, orders in random_plants(lucky(30), 150):
            self.assertEqual(papers(plant, orders), slow_papers(arena(plant, orders), orders))

    def test_nodes_against_a_slow_reading(self):
        luck = lucky(31)
        ranks = set()
        for _ in range(400):
            nodes = random_nodes(luck, luck.randint(2, 9))
            orders = random_orders(luck, 1, 3)
            told = papers_for(Ground(nodes, orders))
            self.assertEqual(told, slow_papers(nodes, orders))
            ranks |= {("good", rank, promise) for good in told["good"] for rank, promise, _ in good}
            ranks |= {("evil", evil["rank"], evil["goal"]) for evil in told["evil"]}
        for wanted in (("good", 1, 2), ("good", 3, 1), ("evil", 1, 2), ("evil", 2, 1), ("evil", 3, 0)):
            self.assertIn(wanted, ranks)

    def test_the_kinds_of_what_is_returned(self):
        told = papers(*lost_one())
        self.assertEqual(sorted(told), ["evil", "good", "wins"])
        self.assertEqual({told[key].__class__ for key in told}, {list})
        self.assertEqual({wins.__class__ for wins in told["wins"]}, {bool})
        for good in told["good"]:
            self.assertIs(good.__class__, list)
            self.assertEqual([(entry.__class__, len(entry)) for entry in good], [(tuple, 3)])
            self.assertEqual({part.__class__ for part in good[0]}, {int})
        for evil in told["evil"]:
            self.assertEqual(sorted(evil), ["choice", "far", "goal", "rank"])
            self.assertEqual([evil[key].__class__ for key in sorted(evil)], [list, list, int, int])
            self.assertEqual({number.__class__ for number in evil["far"] + evil["choice"]}, {int})

    def test_what_is_returned_is_new_each_time(self):
        plant, orders = lost_one()
        before = copy.deepcopy(papers(plant, orders))
        told = papers(plant, orders)
        for good, evil in zip(told["good"], told["evil"]):
            good.clear()
            evil["far"].clear()
            evil["choice"].clear()
            evil.clear()
        for key in told:
            told[key].clear()
        self.assertEqual(papers(plant, orders), before)


class CheckTest(unittest.TestCase):
    def changed(self, plant, orders, *places):
        """What check tells of the papers of some orders, with each place (path, value) changed."""
        given = papers(plant, orders)
        for *path, last, value in places:
            target = given
            for key in path:
                target = target[key]
            target[last] = value
        return check(plant, orders, given)

    def test_papers_hold_for_their_own_arena(self):
        for plant, orders in (example(), lost_one(), (lost_one()[0], orders_of(again=(0,), promises=(0, 1))),
                              (lost_one()[0], orders_of(())), (example()[0], orders_of(never=(0,)))):
            self.assertIsNone(check(plant, orders, papers(plant, orders)))
        for plant, orders in random_plants(lucky(29), 150):
            self.assertIsNone(check(plant, orders, papers(plant, orders)))

    def test_a_won_node_that_is_bad(self):
        plant = Plant(AB, [saying("a", "ab")], ("is(b)",))
        orders = orders_of(never=(0,))
        number = number_after(plant, "ab")
        self.assertIs(papers(plant, orders)["wins"][number], False)
        self.assertEqual(self.changed(plant, orders, ("wins", number, True)), ("good", number, 0))
        for entry in ((0, 0, 0), (9, 9, 0)):
            places = (("wins", number, True), ("good", number, [entry]))
            self.assertEqual(self.changed(plant, orders, *places), ("good", number, 0))

    def test_a_won_node_whose_move_there_is_not(self):
        plant, orders = example()
        for move in (3, 4, 9):
            self.assertEqual(self.changed(plant, orders, ("good", 1, [(1, 0, move)])), ("good", 1, 0))
        for move in (0, 1, 2):
            self.assertIsNone(self.changed(plant, orders, ("good", 1, [(1, 0, move)])))
        # At the others' turn no move is looked at.
        for move in (0, 1, 9):
            self.assertIsNone(self.changed(plant, orders, ("good", 0, [(2, 0, move)])))

    def test_a_won_node_that_leads_to_one_that_is_not(self):
        plant, orders = example()
        # Node 0 leads to node 1, this to node 2, this to node 1 again.
        self.assertEqual(self.changed(plant, orders, ("wins", 0, False)), ("evil", 0, 0))
        self.assertEqual(self.changed(plant, orders, ("wins", 1, False)), ("good", 0, 0))
        self.assertEqual(self.changed(plant, orders, ("wins", 2, False)), ("good", 1, 0))

    def test_ranks_and_promises_of_a_won_node(self):
        plant, orders = example()
        # The goal is not met at node 0 alone; node 1 has rank 1 and promise 0.
        for entry, is_less in (((2, 0, 0), True), ((1, 1, 0), True), ((1, 9, 0), True), ((9, 0, 0), True),
                               ((1, 0, 0), False), ((0, 0, 0), False), ((0, 9, 0), False)):
            self.assertEqual(self.changed(plant, orders, ("good", 0, [entry])), None if is_less else ("good", 0, 0))
        for entry in ((0, 0, 0), (9, 9, 0)):
            self.assertIsNone(self.changed(plant, orders, ("good", 2, [entry])))
        # Only the rank of the goal that is looked at counts.
        plant = Plant(("a",), [circling()], ("now", "now"))
        orders = orders_of(again=(0, 1))
        self.assertEqual(self.changed(plant, orders, ("good", 0, 1, (1, 0, 0))), ("good", 0, 1))
        self.assertEqual(self.changed(plant, orders, ("good", 0, 0, (0, 9, 0))), ("good", 0, 0))

    def test_a_promise_that_is_not_kept_lets_a_won_node_stay_the_same(self):
        plant = Plant(AB, [saying("ab", "a")], ("is(b)", "nothing", "now"))
        orders = orders_of(again=(0,), promises=(1, 2))
        self.assertEqual(papers(plant, orders)["good"][0], [(1, 0, 0)])
        # Promise 0 (nothing) is kept nowhere, promise 1 (now) at all nodes but the first one, and promises that there
        # are not at all nodes.
        for promise, expected in ((0, None), (1, ("good", 1, 0)), (2, ("good", 0, 0)), (9, ("good", 0, 0))):
            given = papers(plant, orders)
            given["good"] = [[(1, promise, 0)] for _ in given["good"]]
            self.assertEqual(check(plant, orders, given), expected, promise)

    def test_with_no_promises_there_is_one_that_is_kept(self):
        plant, orders = example()
        for promise in (0, 1, 2):
            given = papers(plant, orders)
            given["good"] = [[(1, promise, 0)] for _ in given["good"]]
            self.assertEqual(check(plant, orders, given), ("good", 0, 0))

    def test_a_lost_node_whose_goal_there_is_not(self):
        plant, orders = lost_one()
        for goal in (1, 2, 9):
            self.assertEqual(self.changed(plant, orders, ("evil", 0, "goal", goal)), ("evil", 0, 0))
            # So it is also at a bad node, and where a promise would be at fault.
            bad = next(at for at, node in enumerate(arena(plant, orders)) if node["stuck"])
            self.assertEqual(self.changed(plant, orders, ("evil", bad, "goal", goal)), ("evil", bad, 0))
        orders = orders_of(again=(0,), promises=(0, 1))
        won = papers(plant, orders)["wins"].index(True)
        self.assertIsNone(self.changed(plant, orders, ("evil", won, "goal", 9)))
        orders = orders_of(never=(0,))
        given = papers(plant, orders)
        self.assertIn(False, given["wins"])
        given["evil"][given["wins"].index(False)]["goal"] = 1
        self.assertEqual(check(plant, orders, given), ("evil", given["wins"].index(False), 0))

    def test_a_bad_node_needs_nothing_else(self):
        plant, orders = lost_one()
        bad = next(at for at, node in enumerate(arena(plant, orders)) if node["stuck"])
        for evil in (evil_of(0, 0, [], []), evil_of(9, 0, [9], [9])):
            self.assertIsNone(self.changed(plant, orders, ("evil", bad, evil)))

    def test_a_lost_node_whose_move_there_is_not(self):
        plant, orders = lost_one()
        # Node 0 is the others' and has two moves; node 1 is the room's.
        for choice in (2, 3, 9):
            self.assertEqual(self.changed(plant, orders, ("evil", 0, "choice", [choice])), ("evil", 0, 0))
            self.assertIsNone(self.changed(plant, orders, ("evil", 1, "choice", [choice])))
        # Node 2, to which move 1 leads, has the greater rank 2.
        self.assertEqual(self.changed(plant, orders, ("evil", 0, "choice", [1])), ("evil", 0, 0))

    def test_a_lost_node_that_leads_to_one_that_is_won(self):
        plant, orders = lost_one()
        numbers = [number_after(plant, word) for word in ("", "a", "aa", "b")]
        self.assertEqual([papers(plant, orders)["wins"][number] for number in numbers], [False] * 4)
        # The others' move 0 at the first node leads to the node behind a, and the room has that behind aa then.
        first, second, third, _ = numbers
        self.assertEqual(self.changed(plant, orders, ("wins", second, True)), ("evil", first, 0))
        # By move 1 they come to the node behind b alone, so the fault is elsewhere.
        places = [("evil", first, "choice", [1]), ("evil", first, "rank", 9), ("wins", second, True)]
        self.assertEqual(self.changed(plant, orders, *places), ("good", second, 0))
        # The room may come to a won node by any of its moves.
        third_moves = [move[2] for move in arena(plant, orders)[third]["moves"]]
        self.assertIn(second, third_moves)
        self.assertEqual(self.changed(plant, orders, ("wins", third, True)), ("evil", second, 0))

    def test_ranks_and_goals_of_a_lost_node(self):
        plant = Plant(AB, [saying("ab", "a")], ("is(b)",))
        orders = orders_of(again=(0,))
        # 0: nothing yet; 1: a; 2: b, where the goal is met. Node 0 goes to node 1, nodes 1 and 2 go to node 0.
        for rank, fault in ((0, ("evil", 0, 0)), (1, None), (2, ("evil", 1, 0))):
            self.assertEqual(self.changed(plant, orders, ("evil", 0, "rank", rank)), fault)
        for rank, fault in ((0, ("evil", 1, 0)), (1, None), (2, ("evil", 0, 0))):
            self.assertEqual(self.changed(plant, orders, ("evil", 1, "rank", rank)), fault)
        for rank, fault in ((0, ("evil", 2, 0)), (1, ("evil", 2, 0)), (2, None), (9, None)):
            self.assertEqual(self.changed(plant, orders, ("evil", 2, "rank", rank)), fault)
        # With two goals, at equal ranks: the goal may be less, or the same one if it is not met.
        plant = Plant(AB, [saying("ab", "a")], ("is(b)", "nothing"))
        orders = orders_of(again=(0, 1))
        self.assertIsNone(check(plant, orders, papers(plant, orders)))
        for goal, fault in ((0, ("evil", 2, 0)), (1, None), (2, ("evil", 2, 0))):
            self.assertEqual(self.changed(plant, orders, ("evil", 2, evil_of(1, goal, [0], [0]))), fault)

    def test_how_far_is_looked_at_where_a_promise_is_not_kept(self):
        plant, orders = far_one()
        first, c, cc = [number_after(plant, word) for word in ("", "c", "cc")]
        # The first node goes to that behind c, this to that behind cc; is(a) is kept at none of them.
        for at, far, fault in ((first, 4, None), (first, 3, first), (first, 9, None), (c, 2, c), (c, 3, None),
                               (c, 4, first), (cc, 1, cc), (cc, 2, None), (cc, 3, c)):
            told = papers(plant, orders)["evil"][at]["far"]
            expected = None if fault is None else ("evil", fault, 0)
            self.assertEqual(self.changed(plant, orders, ("evil", at, "far", [far, told[1]])), expected, (at, far))
        # is(c) is not kept at the first node alone, of these.
        for at, far, fault in ((first, 1, first), (first, 2, None), (c, 0, None), (c, 1, None), (c, 2, first)):
            told = papers(plant, orders)["evil"][at]["far"]
            expected = None if fault is None else ("evil", fault, 1)
            self.assertEqual(self.changed(plant, orders, ("evil", at, "far", [told[0], far])), expected, (at, far))

    def test_lists_that_are_too_short_are_read_with_0(self):
        plant, orders = example()
        self.assertEqual(self.changed(plant, orders, ("good", 0, [])), ("good", 0, 0))
        self.assertIsNone(self.changed(plant, orders, ("good", 1, []), ("good", 2, [])))
        plant, orders = far_one()
        first, c = [number_after(plant, word) for word in ("", "c")]
        cca = number_after(plant, "cca")
        self.assertEqual(self.changed(plant, orders, ("evil", first, "far", [])), ("evil", first, 0))
        self.assertEqual(self.changed(plant, orders, ("evil", first, "far", [4])), ("evil", first, 1))
        # The first node goes to that behind c: so far may be 0 there and 1 here, but not 0 at both.
        for far, missing, fault in ((1, c, None), (0, c, ("evil", first, 0)), (9, c, None)):
            places = [("evil", first, "far", [far, 2]), ("evil", missing, "far", [])]
            self.assertEqual(self.changed(plant, orders, *places), fault or ("evil", c, 0))
        places = [("evil", first, "far", []), ("evil", c, "far", [0, 0])]
        self.assertEqual(self.changed(plant, orders, *places), ("evil", first, 0))
        # is(a) is kept behind cca, is(c) is not.
        self.assertIsNone(self.changed(plant, orders, ("evil", cca, "far", [0, 2])))
        self.assertEqual(self.changed(plant, orders, ("evil", cca, "far", [])), ("evil", cca, 1))
        # Move 0 is read, and there is no other one at the first node.
        self.assertIsNone(self.changed(plant, orders, ("evil", first, "choice", [])))
        self.assertIsNone(self.changed(plant, orders, ("evil", c, "far", [3])))

    def test_what_is_too_much_is_not_looked_at(self):
        for plant, orders in (example(), lost_one(), far_one()):
            given = papers(plant, orders)
            for good, evil in zip(given["good"], given["evil"]):
                good += [(0, 0, 9), (9, 9, 9)]
                evil["far"] += [0, 9]
                evil["choice"] += [9, 9]
            self.assertIsNone(check(plant, orders, given))

    def test_the_first_fault_is_told(self):
        plant = Plant(("a",), [circling()], ("now", "now"))
        orders = orders_of(again=(0, 1))
        given = papers(plant, orders)
        given["good"][2] = [(1, 0, 0), (1, 0, 9)]
        given["good"][1] = [(1, 0, 0), (1, 0, 3)]
        self.assertEqual(check(plant, orders, given), ("good", 1, 1))
        given["good"][1] = [(1, 0, 3), (1, 0, 3)]
        self.assertEqual(check(plant, orders, given), ("good", 1, 0))
        given["wins"][0] = False
        self.assertEqual(check(plant, orders, given), ("evil", 0, 0))

    def test_random_papers_against_a_slow_reading(self):
        luck = lucky(28)
        told = collections.Counter()
        for _ in range(2500):
            nodes = random_nodes(luck, luck.randint(2, 7))
            orders = random_orders(luck, 1, 3, luck.choice((0.5, 0.9)))
            given = papers_for(Ground(nodes, orders))
            for _ in range(luck.choice((1, 1, 2, 3, 6))):
                change_papers(luck, given)
            before = copy.deepcopy(given)
            fault = first_fault(Ground(nodes, orders), given)
            self.assertEqual(fault, slow_fault(nodes, orders, given))
            self.assertEqual(given, before)
            told[fault and (fault[0], fault[2])] += 1
        for wanted in (None, ("good", 0), ("good", 1), ("good", 2), ("evil", 0), ("evil", 1), ("evil", 2)):
            self.assertGreater(told[wanted], 5, told)

    def test_changed_papers_of_plants_against_a_slow_reading(self):
        luck = lucky(27)
        for plant, orders in random_plants(luck, 150):
            nodes = arena(plant, orders)
            given = papers(plant, orders)
            for _ in range(luck.choice((1, 2, 5))):
                change_papers(luck, given)
            self.assertEqual(check(plant, orders, given), slow_fault(nodes, orders, given))

    def test_papers_of_other_orders(self):
        luck = lucky(26)
        for plant, orders in random_plants(luck, 150):
            others = random_orders(luck, len(plant.devices), len(plant.trees))
            given = papers(plant, others)
            fault = check(plant, orders, given)
            self.assertEqual(fault, slow_fault(arena(plant, orders), orders, given))
            if fault is None:
                # If papers hold, whoever wrote them, the nodes that they tell to be the room's are just those.
                self.assertEqual(given["wins"], papers(plant, orders)["wins"])


if __name__ == "__main__":
    unittest.main()
