"""Point 34 of the document: keeproom/others.py."""

import copy
import unittest

from keeproom.errors import CanKeep, KeeproomError, NothingPossible, NotItsTurn, OrdersError, RowError
from keeproom.others import Others
from keeproom.plants import Plant
from keeproom.questions import write_question
from tests.games import KEYS, orders_of, random_orders, random_plant
from tests.oracles import lucky, place, random_row, row_of, saying
from tests.slowrooms import SlowOthers, World, outcome

AB = ("a", "b")


class OthersTest(unittest.TestCase):
    def assert_raises(self, error, call, *arguments):
        before = copy.deepcopy(arguments[1:])
        with self.assertRaises(KeeproomError) as caught:
            call(*arguments)
        self.assertIs(caught.exception.__class__, error)
        self.assertEqual(arguments[1:], before)
        return caught.exception


class MakingTest(OthersTest):
    def test_refusals_in_their_order(self):
        plant = Plant(AB, [saying("a", "a"), saying("ab", "a")], ("nothing", "is(b)"))
        lost, kept, none = orders_of((0,), (), (0,)), orders_of(), orders_of((), (), (0,))
        wrong = orders_of((2,), (), (0,))
        bad_row = [("a", "1"), ("c", "1")]
        for orders, row, error in (
                (wrong, bad_row, OrdersError), (wrong, row_of("b"), OrdersError), (wrong, [], OrdersError),
                (lost, bad_row, RowError), (kept, bad_row, RowError), (none, bad_row, RowError),
                (none, [], NothingPossible), (lost, row_of("b"), NothingPossible), (kept, row_of("b"), NothingPossible),
                (kept, [], CanKeep), (kept, row_of("aa"), CanKeep), (orders_of((1,)), row_of("b"), CanKeep)):
            self.assert_raises(error, Others, plant, orders, row)
        for orders, row in ((lost, []), (lost, row_of("aa")), (orders_of((0, 1), (), (0,)), row_of("b")),
                            (orders_of((0, 1), (1,)), [])):
            Others(plant, orders, row)

    def test_all_ways_in_which_orders_are_refused(self):
        plant = Plant(AB, [saying("ab", "a")], ("nothing",))
        for key in KEYS:
            for numbers in ((1,), (-1,), (0, 0), (1, 0)):
                self.assert_raises(OrdersError, Others, plant, {**orders_of(again=(0,)), key: numbers}, [])

    def test_rows_that_are_refused(self):
        plant = Plant(AB, [saying("ab", "a")], ("nothing",))
        for row, at in (([("c", "1")], 0), ([("a", "-0")], 0), ([("a", "1"), ("b", "6/4")], 1), (row_of("abc"), 2)):
            self.assertEqual(self.assert_raises(RowError, Others, plant, orders_of(again=(0,)), row).at, at)

    def test_they_keep_copies(self):
        plant = Plant(AB, [saying("ab", "a")], ("is(b)", "is(a)"))
        orders, row = orders_of(again=(0,), promises=(1,)), [("a", "1"), ("a", "5")]
        before = copy.deepcopy((orders, row))
        others = Others(plant, orders, row)
        self.assertEqual((orders, row), before)
        move = others.move()
        orders["again"] = ()
        orders.clear()
        row.clear()
        self.assertEqual(others.move(), move)

    def test_the_listed_methods_stand_in_the_class_itself(self):
        for name in ("__init__", "hear", "move"):
            self.assertIn(name, vars(Others))
        self.assertEqual(Others.__module__, "keeproom.others")


class MoveTest(OthersTest):
    def test_the_move_that_evil_tells(self):
        plant = Plant(("b", "a"), [saying("ab", "a")], ("is(b)",))
        self.assertEqual(Others(plant, orders_of(again=(0,)), []).move(), ("a", "0"))
        # What never may be: they say it.
        plant = Plant(AB, [saying("ab", "a")], ("is(b)",))
        self.assertEqual(Others(plant, orders_of(never=(0,)), []).move(), ("b", "0"))

    def test_the_number_for_its_position(self):
        device = [place(False, 0, ("a", 0, 1, (0,))), place(True, 1, ("a", 2, 2, (0, 1))),
                  place(False, 2, ("a", 2, 3, ()), ("b", 4, 3, ())), place(True, 0, ("a", 0, 0, ()))]
        plant = Plant(AB, [device], ("is(b)", "is(a)"))
        row = [("a", "1"), ("a", "2")]
        self.assertEqual(Others(plant, orders_of(never=(0,)), row).move(), ("b", "3"))
        self.assertEqual(Others(plant, orders_of(again=(0,)), row).move(), ("a", "3/2"))

    def test_promises_in_turn(self):
        # The others keep both promises, one after the other, and never say c, which is to be answered.
        plant = Plant(("c", "a", "b"), [saying("cab", "a")], ("is(c)", "is(b)", "is(a)"))
        others = Others(plant, orders_of(again=(0,), promises=(1,)), [])
        said = []
        for _ in range(4):
            said.append(others.move()[0])
            others.hear(others.move())
            others.hear(("a", "1"))
        self.assertEqual(said, ["b"] * 4)
        others = Others(plant, orders_of(again=(0,), promises=(1, 2)), [])
        said = []
        for _ in range(6):
            said.append(others.move()[0])
            others.hear(others.move())
            others.hear(("a", "1"))
        self.assertNotIn("c", said)
        self.assertIn("b", said[:2])
        self.assertIn("b", said[3:])

    def test_the_turn_goes_on_if_the_promise_is_kept_at_the_node_before_a_record(self):
        # One more number tells a from b: the others say a for is(a), b for is(b), the room c.
        plant = Plant(("a", "b", "c"), [saying("ab", "c")], ("nothing", "is(a)", "is(b)"))
        orders = orders_of(again=(0,), promises=(1, 2))
        others = Others(plant, orders, [])
        # Behind a and then c the turn is b's; behind b and c it is a's again; what else comes does not matter.
        for word, name in (("", "a"), ("ac", "b"), ("bc", "a"), ("bc", "a"), ("ac", "b"), ("ac", "b"), ("bc", "a")):
            for record in row_of(word):
                others.hear(record)
            self.assertEqual(others.move()[0], name)
        # What came before they were made does not count, but the node at which they are made does.
        others = Others(plant, orders, row_of("ac"))
        self.assertEqual(others.move()[0], "a")
        others = Others(plant, orders, row_of("a"))
        others.hear(("c", "1"))
        self.assertEqual(others.move()[0], "b")

    def test_three_promises(self):
        # One question more than the document's plants have: a goal that is none of the three promises.
        plant = Plant(("a", "b", "c"), [saying("abc", "abc")], ("nothing", "is(a)", "is(b)", "is(c)"))
        others = Others(plant, orders_of(again=(0,), promises=(1, 2, 3)), [])
        said = []
        for name in "abcabbcca":
            said.append(others.move()[0])
            others.hear((said[-1], "1"))
            others.hear((name, "1"))
        # At last the room has said c, so the promise whose turn it is is kept, and any move will do.
        self.assertEqual("".join(said), "abcabcaba")

    def test_out_of_turn(self):
        plant = Plant(AB, [saying("ab", "a")], ("is(b)",))
        others = Others(plant, orders_of(again=(0,)), row_of("a"))
        for _ in range(2):
            with self.assertRaises(NotItsTurn) as caught:
                others.move()
            self.assertIs(caught.exception.__class__, NotItsTurn)
        others.hear(("a", "1"))
        self.assertEqual(others.move()[0], "a")
        others.hear(("a", "1"))
        self.assert_raises(NotItsTurn, others.move)

    def test_move_is_not_heard(self):
        plant = Plant(AB, [saying("ab", "a")], ("is(b)", "is(a)"))
        others = Others(plant, orders_of(again=(0,), promises=(1,)), [])
        self.assertEqual([others.move() for _ in range(3)], [("a", "0")] * 3)
        self.assertIs(others.move().__class__, tuple)
        self.assertIsNone(others.hear(others.move()))

    def test_records_that_are_refused(self):
        plant = Plant(AB, [saying("ab", "a")], ("is(b)",))
        others = Others(plant, orders_of(again=(0,)), [])
        for record in (("c", "1"), ("", "1"), ("a", ""), ("a", "-0"), ("b", "6/4"), ("c", "x")):
            with self.assertRaises(RowError) as caught:
                others.hear(record)
            self.assertEqual(caught.exception.at, 0)
            self.assertEqual(others.move(), ("a", "0"))

    def test_records_that_nobody_may_make(self):
        plant = Plant(AB, [saying("a", "a")], ("is(b)",))
        others = Others(plant, orders_of(again=(0,)), [])
        others.hear(("b", "1"))
        self.assert_raises(NotItsTurn, others.move)
        others.hear(("a", "1"))
        # No device is left: their only move is that of the first name and position 0.
        self.assertEqual(others.move(), ("a", "0"))
        plant = Plant(("b", "a"), [saying("a", "a")], ("is(b)",))
        others = Others(plant, orders_of(again=(0,)), [])
        others.hear(("a", "1"))
        others.hear(("b", "3"))
        self.assertEqual(others.move(), ("b", "2"))

    def test_where_the_node_becomes_one_of_the_rooms(self):
        # The room is let out of the trap by others who say b once.
        device = [place(False, 0, ("a", 0, 1, ()), ("b", 0, 3, ())), place(True, 0, ("a", 0, 0, ())),
                  place(False, 0, ("a", 0, 3, ())), place(True, 0, ("b", 0, 2, ()))]
        plant = Plant(AB, [device], ("is(b)",))
        others = Others(plant, orders_of(again=(0,)), [])
        self.assertEqual(others.move(), ("a", "0"))
        others.hear(("b", "1"))
        others.hear(("b", "1"))
        self.assert_raises(CanKeep, Others, plant, orders_of(again=(0,)), row_of("bb"))
        self.assertEqual(others.move(), ("a", "0"))

    def test_two_of_them_know_nothing_of_each_other(self):
        plant = Plant(("a", "b", "c"), [saying("ab", "c")], ("nothing", "is(a)", "is(b)"))
        orders = orders_of(again=(0,), promises=(1, 2))
        first, second = Others(plant, orders, []), Others(plant, orders, [])
        first.hear(("a", "1"))
        first.hear(("c", "1"))
        self.assertEqual((first.move()[0], second.move()[0]), ("b", "a"))

    def test_against_a_slow_reading(self):
        luck = lucky(34)
        made = turned = 0
        while made < 120:
            names, devices, trees = random_plant(luck, 16)
            world = World(names, devices, trees)
            plant = Plant(names, devices, tuple(write_question(tree) for tree in trees))
            for _ in range(4):
                orders = random_orders(luck, len(devices), len(trees), 0.7)
                row = random_row(luck, luck.choice((0, 0, 0, 1, 2)), names)
                told, slow = outcome(Others, plant, orders, row), outcome(SlowOthers, world, orders, row)
                self.assertEqual(told[0], slow[0])
                if told[0] == "raised":
                    self.assertEqual(told, slow)
                    continue
                made += 1
                turned += self.play(luck, names, told[1], slow[1])
        self.assertGreater(turned, 20)

    def play(self, luck, names, others, slow):
        """Whether the turn of the promises went on in a random play."""
        turns = set()
        for _ in range(10):
            move = outcome(others.move)
            self.assertEqual(move, outcome(slow.move))
            record = move[1] if move[0] == "returned" and luck.random() < 0.9 else random_row(luck, 1, names)[0]
            if slow.model.mine and luck.random() < 0.7:
                name, position, _ = luck.choice(slow.world.nodes(slow.orders)[slow.world.number(slow.model)]["moves"])
                numbers = slow.model.numbers()
                if position % 2 == 1:
                    record = (name, str(numbers[position // 2]))
            others.hear(record)
            slow.hear(record)
            turns.add(slow.turn)
        return len(turns) > 1


if __name__ == "__main__":
    unittest.main()
