"""Points 41 to 43 of the document, as far as they speak of texts: keeproom/journals.py."""

import copy
import itertools
import unittest

from keeproom.journals import write_journal
from tests.games import orders_of
from tests.oracles import lucky

ALL = orders_of((0, 1, 2), (0, 1, 2), (0, 1, 2), (0, 1, 2))
NONE = orders_of((), (), (), ())


def lines_of(texts):
    """The journal of events with these texts: the sum is the remainder of one long number."""
    lines = []
    total = 1
    for text in texts:
        code = text.encode("ascii")
        total = (total * 256 ** len(code) + int.from_bytes(code, "big")) % 65521
        lines.append(f"{text} {total}\n")
    return "".join(lines)


def text_of(event):
    """The text of an event, that is, its line without the sum."""
    line = write_journal([event])
    return line.rsplit(" ", 1)[0]


class JournalTest(unittest.TestCase):
    def test_no_events(self):
        self.assertEqual(write_journal([]), "")

    def test_sums_worked_out_by_hand(self):
        # h: 1 * 256 + 104 = 360; blank: 360 * 256 + 32 = 92192, less 65521: 26671; a: 26671 * 256 + 97 = 6827873,
        # less 104 * 65521: 13689; blank: 13689 * 256 + 32 = 3504416, less 53 * 65521: 31803; 0: 31803 * 256 + 48 =
        # 8141616, less 124 * 65521: 17012.
        self.assertEqual(write_journal([("record", "a", "0")]), "h a 0 17012\n")
        # From there on: h: 17012 * 256 + 104, less 66 * 65521: 30790; blank: 19752; b: 11493; blank: 59316; 7: 49600.
        self.assertEqual(write_journal([("record", "a", "0"), ("record", "b", "7")]), "h a 0 17012\nh b 7 49600\n")

    def test_the_text_of_a_record(self):
        for name in ("a", "z", "abcdefgh", "h", "o"):
            for number in ("0", "-3", "7/2", "-1/3", "999999999999", "-999999999999/999999999998", "9" * 3999):
                self.assertEqual(text_of(("record", name, number)), f"h {name} {number}")

    def test_the_text_of_orders(self):
        for orders, text in (
                (NONE, "o - - - -"), (orders_of(), "o 0 - - -"), (ALL, "o 012 012 012 012"),
                (orders_of((0, 2), (1,), (0,), (2,)), "o 02 1 0 2"), (orders_of((1,), (0, 1), (), (2,)), "o 1 01 - 2"),
                (orders_of((), (0,), (1,), (2,)), "o - 0 1 2"), (orders_of((2,), (), (), (1, 2)), "o 2 - - 12")):
            self.assertEqual(text_of(("orders", orders)), text)

    def test_whatever_order_the_keys_have(self):
        orders = orders_of((0,), (1,), (2,), (0, 1))
        for keys in itertools.permutations(orders):
            self.assertEqual(text_of(("orders", {key: orders[key] for key in keys})), "o 0 1 2 01")

    def test_many_events(self):
        self.assertEqual(write_journal([("orders", ALL), ("record", "a", "1"), ("orders", NONE), ("record", "b", "-7/2")]),
                         lines_of(["o 012 012 012 012", "h a 1", "o - - - -", "h b -7/2"]))
        events = [("orders", orders_of())] + [("record", "a", str(number)) for number in range(300)]
        self.assertEqual(write_journal(events), lines_of(["o 0 - - -"] + [f"h a {number}" for number in range(300)]))

    def test_events_of_any_order_are_written(self):
        # Whether they are valid is another matter.
        self.assertEqual(write_journal([("record", "a", "1"), ("record", "a", "1")]), lines_of(["h a 1", "h a 1"]))

    def test_a_sum_rests_on_all_lines_before(self):
        events = [("orders", orders_of()), ("record", "a", "1"), ("record", "b", "2"), ("record", "a", "3")]
        lines = write_journal(events).split("\n")
        for end in range(len(events) + 1):
            self.assertEqual(write_journal(events[:end]), "".join(line + "\n" for line in lines[:end]))
        others = write_journal([("record", "a", "2")] + events[1:]).split("\n")
        self.assertTrue(all(a != b for a, b in zip(lines[:-1], others[:-1])))

    def test_sums_have_no_needless_zeros(self):
        luck = lucky(43)
        seen = set()
        for _ in range(3000):
            line = write_journal([("record", luck.choice("abc"), str(luck.randint(0, 99999)))])
            total = line.rsplit(" ", 1)[1]
            self.assertEqual(total, f"{int(total)}\n")
            self.assertLess(int(total), 65521)
            seen.add(len(total) - 1)
        self.assertLessEqual({3, 4, 5}, seen)

    def test_events_are_as_they_were(self):
        events = [("orders", orders_of((0, 1), (), (1,), ())), ("record", "a", "1/2")]
        before = copy.deepcopy(events)
        self.assertEqual(write_journal(events), write_journal(events))
        self.assertEqual(events, before)

    def test_the_kind_of_what_is_returned(self):
        self.assertIs(write_journal([]).__class__, str)
        self.assertIs(write_journal([("record", "a", "1")]).__class__, str)


if __name__ == "__main__":
    unittest.main()
