"""Points 3 and 6 of the document: keeproom/questions.py."""

import inspect
import itertools
import re
import unittest

from keeproom import questions
from keeproom.questions import parts, read_question, write_question

NAMES = ("a", "bc")
NOW = ("now",)
NOTHING = ("nothing",)
# Each form over the leaves of the questions that it is made of, with its tree and its count of parts.
FORMS = (
    ("now", NOW, 1),
    ("nothing", NOTHING, 1),
    ("is(a)", ("is", "a"), 1),
    ("is(bc)", ("is", "bc"), 1),
    ("less(now,nothing)", ("less", NOW, NOTHING), 3),
    ("same(now,is(bc))", ("same", NOW, ("is", "bc")), 3),
    ("if(now,nothing,is(a))", ("if", NOW, NOTHING, ("is", "a")), 4),
    ("last(now)", ("last", NOW), 2),
    ("first(now)", ("first", NOW), 2),
    ("before(now)", ("before", NOW), 2),
    ("great(1,now)", ("great", 1, NOW), 2),
    ("great(2,now)", ("great", 2, NOW), 2),
    ("least(1,now)", ("least", 1, NOW), 2),
    ("least(2,now)", ("least", 2, NOW), 2),
    ("times(1,now)", ("times", 1, NOW), 2),
    ("times(2,now)", ("times", 2, NOW), 2),
    ("times(3,now)", ("times", 3, NOW), 2),
    ("circle(2,0,now)", ("circle", 2, 0, NOW), 2),
    ("circle(2,1,now)", ("circle", 2, 1, NOW), 2),
    ("circle(3,0,now)", ("circle", 3, 0, NOW), 2),
    ("circle(3,1,now)", ("circle", 3, 1, NOW), 2),
    ("circle(3,2,now)", ("circle", 3, 2, NOW), 2),
    ("since(now,nothing)", ("since", NOW, NOTHING), 3),
    ("among(now,nothing)", ("among", NOW, NOTHING), 3),
)
NESTED = (
    ("less(now,now)", ("less", NOW, NOW), 3),
    ("last(first(before(now)))", ("last", ("first", ("before", NOW))), 4),
    ("if(less(is(a),last(is(bc))),great(2,now),since(now,among(nothing,is(a))))",
     ("if", ("less", ("is", "a"), ("last", ("is", "bc"))), ("great", 2, NOW),
      ("since", NOW, ("among", NOTHING, ("is", "a")))), 12),
    ("circle(3,2,times(3,least(1,same(now,before(now)))))",
     ("circle", 3, 2, ("times", 3, ("least", 1, ("same", NOW, ("before", NOW))))), 7),
    ("among(if(now,now,now),if(nothing,nothing,nothing))",
     ("among", ("if", NOW, NOW, NOW), ("if", NOTHING, NOTHING, NOTHING)), 9),
)
# K and M that a form may not have, next to those that it may, and other texts in their place.
WRONG_NUMBERS = (
    [f"{word}({k},now)" for word in ("great", "least")
     for k in ("0", "3", "4", "-1", "+1", "01", "1 ", " 1", "", "1.0", "11", "12", "1/1", "x", "\u0661", "now", "1,1")]
    + [f"times({k},now)" for k in ("0", "4", "5", "-1", "+1", "01", "03", "", "31", "now", "2,1", "\u0661")]
    + [f"circle({m},{k},now)" for m, k in (
        ("0", "0"), ("1", "0"), ("1", "1"), ("2", "2"), ("2", "3"), ("2", "-1"), ("3", "3"), ("3", "-1"), ("4", "0"),
        ("4", "3"), ("-2", "0"), ("02", "0"), ("2", "00"), ("+2", "1"), ("2", "+1"), ("2", "-0"), ("2", "01"), ("", "0"),
        ("2", ""), ("", ""), ("3", "03"), ("12", "1"), ("2", "10"), ("now", "0"), ("2", "now"))]
    + ["great(now)", "least(now)", "times(now)", "circle(now)", "circle(2,now)", "circle(0,now)", "circle(2,0,1,now)",
       "great(1)", "great(1,)", "times(1)", "circle(2,0)", "circle(2,0,)", "great(now,1)", "circle(now,2,0)",
       "circle(0,2,now)", "last(1,now)", "first(1,now)", "before(1,now)", "less(1,now,now)", "now(1)", "since(1,now,now)"]
)
# Texts that have none of the forms for other reasons.
WRONG = (
    "", " ", "now ", " now", "n ow", "now\n", "\nnow", "\tnow", "now\x00", "Now", "NOW", "no", "nowx", "xnow", "nownow",
    "now,now", "now,", ",now", "now)", "(now)", "(now", "now()", "now(now)", "()", "(", ")", ",", "nothing()", "noth",
    "nothings", "none", "None", "nothing,nothing", "nothing)", "last", "last(", "last()", "last)", "lastnow", "last now",
    "last(now", "last(now))", "last(now,)", "last(,now)", "last(now,now)", "last((now))", "last(now)now", "last(now),",
    "last(now),now", "last(now) ", " last(now)", "last (now)", "last( now)", "last(now )", "last[now]", "last{now}",
    "last(now)last(now)", "last(last(now)", "last(last(now)))", "Last(now)", "last(Now)", "last(no)", "last(1)",
    "less(now)", "less(now,)", "less(,now)", "less(,)", "less()", "less", "less(now,now", "less(now,now))",
    "less(now,now,now)", "less(now,now,)", "less(now,,now)", "less(now now)", "less(now;now)", "less(now, now)",
    "less(now ,now)", "less(now.now)", "lessnow,now", "less(now),now)", "less(now,now),", "less)now,now(",
    "less(last(now,now))", "less(last(now),now", "less(last(now,now)", "less(lastnow),now)", "less(now(now))",
    "same(now)", "same(now,now,now)", "if(now,now)", "if(now,now,now,now)", "if(now)", "if()", "if(now,now,)",
    "if(,now,now)", "if(now,,now)", "if(now,now,now", "if now,now,now", "since(now)", "since(now,now,now)", "since()",
    "among(now)", "among(now,now,now)", "among()", "first()", "first(now,now)", "before()", "before(now,now)",
    "is", "is(", "is()", "is)", "is(a", "is(a))", "is(a,)", "is(,a)", "is(a,bc)", "is(a,now)", "isa", "is a", "is( a)",
    "is(a )", "is((a))", "is(now)", "is(b)", "is(c)", "is(abc)", "is(aa)", "is(A)", "is(is(a))", "is(\u0430)", "is(a)a",
    "a", "bc", "not(now)", "and(now,now)", "greater(1,now)", "more(now,now)", "0", "1", "-1", "1/2",
    "last(no\u03c9)", "last\uff08now\uff09", "less(now\uff0cnow)", "n\u00f3w", "now\u00a0",
)
# For each form that is made of questions: its text, what stands in its tree ahead of these, and how many they are.
MAKERS = (
    ("last({})", ("last",), 1), ("first({})", ("first",), 1), ("before({})", ("before",), 1),
    ("great(1,{})", ("great", 1), 1), ("great(2,{})", ("great", 2), 1),
    ("least(1,{})", ("least", 1), 1), ("least(2,{})", ("least", 2), 1),
    ("times(1,{})", ("times", 1), 1), ("times(2,{})", ("times", 2), 1), ("times(3,{})", ("times", 3), 1),
    ("circle(2,0,{})", ("circle", 2, 0), 1), ("circle(2,1,{})", ("circle", 2, 1), 1),
    ("circle(3,0,{})", ("circle", 3, 0), 1), ("circle(3,1,{})", ("circle", 3, 1), 1),
    ("circle(3,2,{})", ("circle", 3, 2), 1),
    ("less({},{})", ("less",), 2), ("same({},{})", ("same",), 2), ("since({},{})", ("since",), 2),
    ("among({},{})", ("among",), 2), ("if({},{},{})", ("if",), 3),
)
UNARY = [maker for maker, _, places in MAKERS if places == 1]
BINARY = [maker for maker, _, places in MAKERS if places == 2]
LEAVES = ("now", "nothing", "is(a)", "is(bc)")
LONE = re.compile("(?:last|first|before)\\(Q\\)|(?:great|least)\\([12],Q\\)|times\\([123],Q\\)"
                  "|circle\\((?:2,[01]|3,[012]),Q\\)", re.ASCII)


def is_question(text):
    """Whether the text has one of the forms: those that hold only questions are made into a Q, from inside out."""
    if "Q" in text:
        return False
    text = re.sub("is\\((?:a|bc)\\)|nothing|now", "Q", text)
    before = None
    while text != before:
        before = text
        text = LONE.sub("Q", text)
        text = re.sub("(?:less|same|since|among)\\(Q,Q\\)|if\\(Q,Q,Q\\)", "Q", text)
    return text == "Q"


def small_questions():
    """The texts of all questions of at most 3 parts over the leaves, and those of `if` over them."""
    lists = [list(LEAVES)]
    for _ in range(2):
        lists.append([form.format(inner) for form in UNARY for inner in lists[-1]])
    pairs = [form.format(a, b) for form in BINARY for a in LEAVES for b in LEAVES]
    triples = [f"if({a},{b},{c})" for a in LEAVES for b in LEAVES for c in LEAVES]
    return sum(lists, []) + pairs + triples


def changed_texts(text):
    """The text with one character left out, put in, doubled or replaced, and with two neighbours exchanged."""
    for at in range(len(text) + 1):
        yield text[:at]
        yield text[at:]
        yield text[:at] + text[at + 1:]
        yield text[:at] + text[at:at + 2][::-1] + text[at + 2:]
        for sign in "(),0123 nabQ":
            yield text[:at] + sign + text[at:]
            yield text[:at] + sign + text[at + 1:]


class FormsTest(unittest.TestCase):
    def test_each_form_and_nested_ones(self):
        for text, tree, count in FORMS + NESTED:
            with self.subTest(text):
                self.assertEqual(read_question(text, NAMES), tree)
                self.assertEqual(write_question(tree), text)
                self.assertEqual(parts(tree), count)

    def test_each_form_in_each_place_of_each_other_one(self):
        for maker, fields, places in MAKERS:
            for (inner, inner_tree, count), place in itertools.product(FORMS + NESTED, range(places)):
                texts, trees = ["now"] * places, [NOW] * places
                texts[place], trees[place] = inner, inner_tree
                text, tree = maker.format(*texts), fields + tuple(trees)
                self.assertEqual(read_question(text, NAMES), tree)
                self.assertEqual(write_question(tree), text)
                self.assertEqual(parts(tree), places + count)

    def test_wrong_numbers_in_a_form(self):
        for text in WRONG_NUMBERS:
            with self.subTest(text):
                self.assertIsNone(read_question(text, NAMES))
                self.assertIsNone(read_question(f"last({text})", NAMES))
                self.assertIsNone(read_question(f"less(now,{text})", NAMES))

    def test_texts_that_have_none_of_the_forms(self):
        for text in WRONG:
            with self.subTest(text):
                self.assertFalse(is_question(text))
                self.assertIsNone(read_question(text, NAMES))

    def test_wrong_texts_inside_a_question(self):
        for text in WRONG:
            for outer in ("last({})", "if(now,{},now)", "great(2,{})"):
                inside = outer.format(text)
                if not is_question(inside):
                    self.assertIsNone(read_question(inside, NAMES), inside)

    def test_small_questions_from_text_to_tree_to_text(self):
        seen = set()
        for text in small_questions():
            tree = read_question(text, NAMES)
            self.assertIsNotNone(tree, text)
            self.assertEqual(write_question(tree), text)
            words = re.findall("[a-z]+", re.sub("is\\((?:a|bc)\\)", "is", text))
            self.assertEqual(parts(tree), len(words), text)
            seen.add(tree)
        self.assertEqual(len(seen), len(small_questions()))

    def test_questions_with_one_character_changed(self):
        for text, _, _ in FORMS + NESTED:
            for other in changed_texts(text):
                tree = read_question(other, NAMES)
                self.assertEqual(tree is not None, is_question(other), other)
                if tree is not None:
                    self.assertEqual(write_question(tree), other)

    def test_trees_are_made_of_tuples_strings_and_integers(self):
        waiting = [read_question(text, NAMES) for text, _, _ in FORMS + NESTED]
        while waiting:
            tree = waiting.pop()
            self.assertIs(type(tree), tuple)
            self.assertIs(type(tree[0]), str)
            for item in tree[1:]:
                self.assertIn(type(item), (tuple, str, int))
                if type(item) is tuple:
                    waiting.append(item)


class NamesTest(unittest.TestCase):
    def test_only_the_given_names(self):
        for names in (("a",), ("a", "bc"), ("longname", "a", "z")):
            for name in ("a", "bc", "longname", "z", "b", "long", "longnames", ""):
                tree = ("is", name) if name in names else None
                self.assertEqual(read_question(f"is({name})", names), tree)
                nested = ("last", tree) if name in names else None
                self.assertEqual(read_question(f"last(is({name}))", names), nested)

    def test_names_that_are_words_of_questions(self):
        names = ("now", "is", "last")
        for name in names:
            self.assertEqual(read_question(f"is({name})", names), ("is", name))
            self.assertEqual(write_question(("is", name)), f"is({name})")
            self.assertEqual(parts(("is", name)), 1)
        self.assertEqual(read_question("less(now,is(now))", names), ("less", NOW, ("is", "now")))
        for text in ("is(nothing)", "is(last(now))", "is(is(now))", "is", "last", "is(now,now)"):
            self.assertIsNone(read_question(text, names), text)

    def test_a_name_is_no_question(self):
        for text in ("a", "last(a)", "a(now)", "less(a,a)"):
            self.assertIsNone(read_question(text, ("a",)))


class LongTextsTest(unittest.TestCase):
    def test_questions_of_about_400_characters(self):
        depth = 66
        text = "last(" * depth + "now" + ")" * depth
        self.assertLessEqual(len(text), 400)
        tree = NOW
        for _ in range(depth):
            tree = ("last", tree)
        self.assertEqual(read_question(text, NAMES), tree)
        self.assertEqual(write_question(tree), text)
        self.assertEqual(parts(tree), depth + 1)

    def test_a_wide_question(self):
        text = "now"
        while len(text) < 380:
            text = f"less({text},now)"
        self.assertEqual(write_question(read_question(text, NAMES)), text)
        self.assertEqual(parts(read_question(text, NAMES)), 2 * text.count("less") + 1)

    def test_longer_questions_raise_nothing(self):
        for depth in (100, 400, 3000):
            text = "last(" * depth + "now" + ")" * depth
            tree = read_question(text, NAMES)
            self.assertEqual(parts(tree), depth + 1)
            self.assertEqual(write_question(tree), text)

    def test_long_texts_that_have_none_of_the_forms(self):
        for count in (60, 133, 1000):
            for text in ("if(" * count, "last(" * count, "last(" * count + "now", "now" * count, "now," * count,
                         ")" * count, "(" * count, "," * count, " " * count, "a" * count, "1" * count,
                         "last(" * count + "now" + ")" * (count - 1), "last(" * count + "now" + ")" * (count + 1),
                         "less(now," * count + ")" * count, "great(1," * count + "now" + "," * count):
                self.assertIsNone(read_question(text, NAMES), text[:20])


class FunctionsTest(unittest.TestCase):
    def test_arguments_have_the_names_of_the_interface(self):
        wanted = {"read_question": ["text", "names"], "write_question": ["tree"], "parts": ["tree"]}
        for name, arguments in wanted.items():
            function = getattr(questions, name)
            self.assertEqual(list(inspect.signature(function).parameters), arguments)
            self.assertEqual(function.__module__, "keeproom.questions")

    def test_arguments_are_as_they_were(self):
        names = ["a", "bc"]
        for text, tree, _ in FORMS + NESTED:
            read_question(text, names)
            told = repr(tree)
            write_question(tree)
            parts(tree)
            self.assertEqual(repr(tree), told)
        self.assertEqual(names, ["a", "bc"])

    def test_names_of_one_call_are_not_known_to_the_next_one(self):
        self.assertEqual(read_question("is(zz)", ("zz",)), ("is", "zz"))
        self.assertIsNone(read_question("is(zz)", ("a",)))
        self.assertEqual(read_question("is(a)", ("a",)), ("is", "a"))


if __name__ == "__main__":
    unittest.main()
