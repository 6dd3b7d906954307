"""Points 21 to 25 of the document: keeproom/arenas.py."""

import copy
import unittest

from keeproom.arenas import arena, can
from keeproom.errors import RowError
from keeproom.grounds import Ground, has
from keeproom.plants import Plant
from keeproom.questions import write_question
from keeproom.stages import room_stages
from tests.games import Game, orders_of, random_nodes, random_orders, random_plant, room_wins, slow_arena
from tests.oracles import circling, lucky, random_row, reached, place, saying

AB = ("a", "b")


def node(mine, answers, stuck, *moves):
    return {"mine": mine, "answers": answers, "stuck": stuck, "moves": list(moves)}


class ArenaTest(unittest.TestCase):
    def test_one_device_that_allows_all(self):
        self.assertEqual(arena(Plant(AB, [circling(AB)], ()), orders_of()), [
            node(False, (), False, ("a", 0, 1), ("b", 0, 1)), node(True, (), False, ("a", 0, 0), ("b", 0, 0))])

    def test_one_device_that_goes_out(self):
        # 0: nothing yet; 1: a; 2: b, and it is out; 3: ab, and it is out.
        self.assertEqual(arena(Plant(AB, [saying("a", "a")], ()), orders_of()), [
            node(False, (), False, ("a", 0, 1)), node(True, (), False, ("a", 0, 0)),
            node(True, (), True, ("a", 0, 2)), node(False, (), False, ("a", 0, 3))])

    def test_no_device_is_assumed(self):
        nodes = arena(Plant(AB, [saying("a", "a")], ()), orders_of(()))
        self.assertEqual(nodes, [
            node(False, (), False, ("a", 0, 0)), node(True, (), True, ("a", 0, 1)),
            node(True, (), True, ("a", 0, 2)), node(False, (), False, ("a", 0, 3))])

    def test_the_only_move_has_the_first_name(self):
        # 0: nothing yet; 1: b, and it is out; 2: a; 3: bb, and it is out.
        nodes = arena(Plant(("b", "a"), [saying("a", "a")], ()), orders_of())
        self.assertEqual(nodes, [
            node(False, (), False, ("a", 0, 2)), node(True, (), True, ("b", 0, 1)),
            node(True, (), False, ("a", 0, 0)), node(False, (), False, ("b", 0, 3))])

    def test_the_only_move_of_a_shape_with_numbers_has_position_0(self):
        nodes = arena(Plant(("a",), [saying("a", "a")], ("now",)), orders_of(()))
        self.assertEqual(nodes, [
            node(False, (False,), False, ("a", 0, 0)), node(True, (True,), True, ("a", 0, 1)),
            node(False, (True,), False, ("a", 0, 2))])

    def test_two_devices(self):
        # 0: nothing yet; 1: a; 2: b, device 0 is out; 3: ab, device 0 is out.
        plant = Plant(AB, [saying("a", "a"), saying("ab", "ab")], ())
        self.assertEqual(arena(plant, orders_of((0, 1))), [
            node(False, (), False, ("a", 0, 1), ("b", 0, 2)), node(True, (), False, ("a", 0, 0)),
            node(True, (), False, ("a", 0, 3), ("b", 0, 3)), node(False, (), False, ("a", 0, 2), ("b", 0, 2))])
        self.assertEqual(arena(plant, orders_of((0,))), [
            node(False, (), False, ("a", 0, 1)), node(True, (), False, ("a", 0, 0)),
            node(True, (), True, ("a", 0, 2)), node(False, (), False, ("a", 0, 3))])
        self.assertEqual(arena(plant, orders_of((1,))), [
            node(False, (), False, ("a", 0, 1), ("b", 0, 2)), node(True, (), False, ("a", 0, 0), ("b", 0, 3)),
            node(True, (), False, ("a", 0, 3), ("b", 0, 3)), node(False, (), False, ("a", 0, 2), ("b", 0, 2))])

    def test_devices_that_are_left_and_allow_nothing_in_common(self):
        # After a the room may say neither a nor b, since either of the two may be the true one.
        plant = Plant(AB, [saying("a", "a"), saying("a", "b"), saying("ab", "ab")], ())
        for devices in ((0, 1), (0, 1, 2)):
            stuck = arena(plant, orders_of(devices))[1]
            self.assertEqual(stuck, node(True, (), True, ("a", 0, 1)))
        numbers = [plant.point([("a", "1"), (name, "1")])[1] for name in AB]
        self.assertEqual(arena(plant, orders_of((1, 2)))[1], node(True, (), False, ("b", 0, numbers[1])))
        self.assertEqual(arena(plant, orders_of((2,)))[1],
                         node(True, (), False, ("a", 0, numbers[0]), ("b", 0, numbers[1])))

    def test_the_others_need_one_device_alone(self):
        names = ("a", "b", "c")
        plant = Plant(names, [saying("a", "a"), saying("b", "a"), saying("c", "a")], ())
        for devices, said in (((), ""), ((0,), "a"), ((1,), "b"), ((0, 1), "ab"), ((0, 2), "ac"), ((0, 1, 2), "abc")):
            moves = arena(plant, orders_of(devices))[0]["moves"]
            expected = [(name, 0, plant.point([(name, "1")])[1]) for name in said]
            self.assertEqual(moves, expected or [("a", 0, 0)])

    def test_name_by_name_and_position_by_position(self):
        # The room answers with a number that is less, or with b and the same one.
        device = [place(False, 0, ("a", 0, 1, (0,)), ("b", 0, 1, (0,))),
                  place(True, 1, ("b", 1, 0, ()), ("b", 0, 0, ()), ("a", 0, 0, ()))]
        for names in (AB, ("b", "a")):
            plant = Plant(names, [device], ())
            moves = arena(plant, orders_of())[1]["moves"]
            self.assertEqual([move[:2] for move in moves],
                             [("a", 0), ("b", 0), ("b", 1)] if names == AB else [("b", 0), ("b", 1), ("a", 0)])
            self.assertEqual([move[2] for move in moves], [0, 0, 0])

    def test_positions_are_those_among_all_numbers_of_the_state(self):
        # Behind a the device keeps 5, the question tells 7: so less than 5 is 0, 5 is 1, between is 2, 7 is 3 ..
        device = [place(False, 0, ("a", 0, 1, (0,))),
                  place(True, 1, ("b", 2, 2, (0,)), ("b", 0, 2, (1,))),
                  place(False, 1, ("a", 2, 3, (0,)), ("a", 1, 3, (0,))), place(True, 1, ("b", 2, 2, (0,)))]
        plant = Plant(AB, [device], ("is(b)",))
        point = plant.point([("a", "5"), ("b", "7")])
        self.assertEqual(point[2], ("5", "7"))
        moves = arena(plant, orders_of())[point[1]]["moves"]
        expected = [("a", at, plant.point([("a", "5"), ("b", "7"), ("a", text)])[1])
                    for at, text in ((1, "5"), (2, "6"), (3, "7"), (4, "8"))]
        self.assertEqual(moves, expected)

    def test_answers_are_told_for_all_questions_whatever_the_orders_are(self):
        plant = Plant(AB, [circling(AB)], ("is(b)", "nothing", "now"))
        for orders in (orders_of(), orders_of((), (0, 1), (2,), (1,)), orders_of((0,), (), (0, 1, 2), (0, 1, 2))):
            nodes = arena(plant, orders)
            rows = ([], [("a", "1")], [("b", "1")])
            told = [nodes[plant.point(row)[1]]["answers"] for row in rows]
            self.assertEqual(told, [(False, False, False), (False, False, True), (True, False, True)])
            self.assertEqual([node["mine"] for node in nodes][:2], [False, True])

    def test_against_a_model(self):
        luck = lucky(21)
        stuck = 0
        for _ in range(120):
            names, devices, trees = random_plant(luck)
            plant = Plant(names, devices, tuple(write_question(tree) for tree in trees))
            for _ in range(3):
                orders = random_orders(luck, len(devices), len(trees))
                nodes = arena(plant, orders)
                self.assertEqual(nodes, slow_arena(names, devices, trees, orders))
                stuck += sum(node["stuck"] for node in nodes)
        self.assertGreater(stuck, 100)

    def test_the_kinds_of_what_is_returned(self):
        nodes = arena(Plant(AB, [saying("a", "a")], ("now", "nothing")), orders_of())
        self.assertIs(nodes.__class__, list)
        for one in nodes:
            self.assertEqual(sorted(one), ["answers", "mine", "moves", "stuck"])
            self.assertIs(one["mine"].__class__, bool)
            self.assertIs(one["stuck"].__class__, bool)
            self.assertEqual([one["answers"].__class__, one["moves"].__class__], [tuple, list])
            self.assertEqual({answer.__class__ for answer in one["answers"]}, {bool})
            for move in one["moves"]:
                self.assertEqual([part.__class__ for part in move], [str, int, int])
        self.assertIs(arena(Plant(AB, [saying("a", "a")], ()), orders_of(()))[0]["stuck"], False)

    def test_what_is_returned_is_new_each_time(self):
        plant = Plant(AB, [circling(AB)], ("is(b)",))
        before = copy.deepcopy(arena(plant, orders_of()))
        nodes = arena(plant, orders_of())
        for one in nodes:
            one["moves"].clear()
            one.clear()
        nodes.clear()
        self.assertEqual(arena(plant, orders_of()), before)
        self.assertEqual(plant.shapes(), len(before))


class NodesTest(unittest.TestCase):
    """Points 23 and 24, over nodes that need not be a plant's."""

    def test_against_sets_and_against_another_way(self):
        luck = lucky(24)
        won = lost = 0
        for _ in range(400):
            nodes = random_nodes(luck, luck.randint(2, 9))
            orders = random_orders(luck, 1, 3)
            stages = [{at for at in range(len(nodes)) if has(stage, at)}
                      for stage in room_stages(Ground(nodes, orders))]
            self.assertEqual(stages, Game(nodes, orders).rooms())
            self.assertEqual(stages[-1], room_wins(nodes, orders))
            won += len(stages[-1])
            lost += len(nodes) - len(stages[-1])
        self.assertGreater(min(won, lost), 500)


class CanTest(unittest.TestCase):
    def told(self, plant, orders, *words):
        """What can tells after rows that are given by their names."""
        return [can(plant, orders, [(name, "1") for name in word]) for word in words]

    def test_no_goals_and_nothing_that_never_may_be(self):
        plant = Plant(AB, [saying("a", "a")], ("now",))
        self.assertEqual(self.told(plant, orders_of(), "", "a", "aa", "aaa"), [True] * 4)
        self.assertEqual(self.told(plant, orders_of(promises=(0,)), "", "a", "aa", "aaa"), [True] * 4)

    def test_no_assumed_device_is_possible(self):
        # Where the others are and cannot move nothing is bad, but nothing that could be kept is left.
        plant = Plant(AB, [saying("a", "a"), saying("ab", "ab")], ("now",))
        self.assertEqual(self.told(plant, orders_of((0,)), "b", "ab", "ba", "bb", "aab", "abb"), [False] * 6)
        self.assertEqual(self.told(plant, orders_of((1,)), "b", "ab", "ba", "bb", "aab", "abb"), [True] * 6)
        self.assertEqual(self.told(plant, orders_of((0, 1)), "b", "ab", "ba", "bb", "aab", "abb"), [True] * 6)
        self.assertEqual(self.told(plant, orders_of(()), "", "a", "b", "aa"), [False] * 4)

    def test_never(self):
        plant = Plant(AB, [saying("a", "ab")], ("is(b)",))
        # It is the room that says b, if it likes; what has come counts no longer, but for the latest record.
        self.assertEqual(self.told(plant, orders_of(never=(0,)), "", "a", "ab", "aba", "abab"),
                         [True, True, False, True, False])
        plant = Plant(AB, [saying("ab", "a")], ("is(b)",))
        self.assertEqual(self.told(plant, orders_of(never=(0,)), "", "a", "b", "aa"), [False] * 4)
        plant = Plant(AB, [saying("a", "b")], ("is(b)",))
        self.assertEqual(self.told(plant, orders_of(never=(0,)), "", "a", "ab", "aba"), [False] * 4)

    def test_one_bad_question_among_several(self):
        plant = Plant(AB, [saying("a", "ab")], ("nothing", "is(b)", "times(3,is(b))"))
        self.assertEqual(self.told(plant, orders_of(never=(0, 1)), "", "a", "ab", "aba"), [True, True, False, True])
        self.assertEqual(self.told(plant, orders_of(never=(0, 2)), "", "ab", "ababa", "ababab", "abababa"),
                         [True, True, True, False, False])

    def test_again(self):
        plant = Plant(AB, [saying("ab", "ab")], ("is(a)", "is(b)", "nothing"))
        self.assertEqual(self.told(plant, orders_of(again=(0, 1)), "", "a", "ab"), [True] * 3)
        self.assertEqual(self.told(plant, orders_of(again=(0, 2)), "", "a", "ab"), [False] * 3)
        plant = Plant(AB, [saying("ab", "a")], ("is(a)", "is(b)"))
        self.assertEqual(self.told(plant, orders_of(again=(0,)), "", "a", "ba"), [True] * 3)
        self.assertEqual(self.told(plant, orders_of(again=(1,)), "", "a", "ba"), [False] * 3)
        self.assertEqual(self.told(plant, orders_of(again=(0, 1)), "", "a", "ba"), [False] * 3)

    def test_promises(self):
        plant = Plant(AB, [saying("ab", "a")], ("is(a)", "is(b)", "nothing"))
        self.assertEqual(self.told(plant, orders_of(again=(1,), promises=(1,)), "", "a", "ba"), [True] * 3)
        self.assertEqual(self.told(plant, orders_of(again=(1,), promises=(0,)), "", "a", "ba"), [False] * 3)
        self.assertEqual(self.told(plant, orders_of(again=(1,), promises=(0, 1)), "", "a", "ba"), [True] * 3)
        self.assertEqual(self.told(plant, orders_of(again=(1, 2), promises=(0, 1)), "", "a", "ba"), [False] * 3)
        self.assertEqual(self.told(plant, orders_of(again=(1, 2), promises=(0, 2)), "", "a", "ba"), [True] * 3)

    def test_the_room_may_break_a_promise_itself(self):
        # If it never says b, b is not answered again and again, so nothing has to be.
        plant = Plant(AB, [saying("a", "ab")], ("is(b)", "nothing"))
        self.assertEqual(self.told(plant, orders_of(again=(1,), promises=(0,)), "", "a", "ab"), [True] * 3)
        self.assertEqual(self.told(plant, orders_of(never=(0,), again=(0,)), "", "a"), [False] * 2)

    def test_all_assumed_devices_at_once(self):
        plant = Plant(AB, [saying("a", "b"), saying("a", "a"), saying("a", "ab")], ("is(b)",))
        for devices, expected in (((0,), True), ((1,), False), ((2,), True), ((0, 2), True), ((1, 2), False),
                                  ((0, 1), False), ((0, 1, 2), False)):
            self.assertEqual(self.told(plant, orders_of(devices, again=(0,)), "", "a"), [expected] * 2, devices)

    def test_what_the_others_do_may_tell_which_device_it_is(self):
        # If the others say b, device 1 is out; if they say a, the room may go on as if both were there.
        plant = Plant(AB, [saying("b", "b"), saying("a", "ab")], ("is(b)",))
        self.assertEqual(self.told(plant, orders_of((0, 1), never=(0,)), "", "a", "b"), [False, True, False])
        self.assertEqual(self.told(plant, orders_of((0, 1), again=(0,)), "", "a", "b"), [True] * 3)

    def test_a_stuck_room(self):
        plant = Plant(AB, [saying("a", "a"), saying("a", "b")], ("now",))
        self.assertEqual(self.told(plant, orders_of((0, 1)), "", "a"), [False, False])
        self.assertEqual(self.told(plant, orders_of((0, 1)), "aa", "aaa", "ab", "aba"), [True] * 4)

    def test_against_another_way(self):
        luck = lucky(25)
        told = []
        for _ in range(150):
            names, devices, trees = random_plant(luck)
            plant = Plant(names, devices, tuple(write_question(tree) for tree in trees))
            orders = random_orders(luck, len(devices), len(trees))
            won = room_wins(slow_arena(names, devices, trees, orders), orders)
            for number, model in enumerate(reached(names, devices, trees).values()):
                left = any(model.stands[device] is not None for device in orders["devices"])
                row = [(name, str(fraction)) for name, fraction in model.row]
                self.assertIs(can(plant, orders, row), left and number in won)
                told.append(left and number in won)
            row = random_row(luck, 5, names)
            left = set(plant.look(row)["possible"]) & set(orders["devices"])
            self.assertIs(can(plant, orders, row), bool(left) and plant.point(row)[1] in won)
        self.assertGreater(min(told.count(True), told.count(False)), 200)

    def test_rows_are_refused(self):
        plant = Plant(AB, [saying("a", "a")], ())
        for orders in (orders_of(), orders_of(())):
            for row, at in (([("c", "1")], 0), ([("a", "1"), ("a", "03")], 1), ([("b", "1"), ("b", "1"), ("", "1")], 2)):
                with self.assertRaises(RowError) as caught:
                    can(plant, orders, row)
                self.assertEqual(caught.exception.at, at)

    def test_arguments_are_as_they_were(self):
        plant = Plant(AB, [saying("a", "ab")], ("is(b)",))
        orders = orders_of((0,), (), (0,), ())
        row = [("a", "1"), ("b", "2")]
        before = copy.deepcopy((orders, row))
        points = [plant.point(row), plant.look(row)]
        arena(plant, orders)
        self.assertIs(can(plant, orders, row), True)
        self.assertEqual((orders, row), before)
        self.assertEqual([plant.point(row), plant.look(row)], points)


if __name__ == "__main__":
    unittest.main()
