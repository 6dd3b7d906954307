"""Questions: their texts, and the trees of their parts."""

# For each beginning of a question, up to its first part: what stands in its tree ahead of the parts that it is made
# of, and how many these are. None begins with another one. Those of `is` depend on the names of the plant.
OPENINGS = {
    "now": (("now",), 0),
    "nothing": (("nothing",), 0),
    "less(": (("less",), 2),
    "same(": (("same",), 2),
    "if(": (("if",), 3),
    "last(": (("last",), 1),
    "first(": (("first",), 1),
    "before(": (("before",), 1),
    "great(1,": (("great", 1), 1),
    "great(2,": (("great", 2), 1),
    "least(1,": (("least", 1), 1),
    "least(2,": (("least", 2), 1),
    "times(1,": (("times", 1), 1),
    "times(2,": (("times", 2), 1),
    "times(3,": (("times", 3), 1),
    "circle(2,0,": (("circle", 2, 0), 1),
    "circle(2,1,": (("circle", 2, 1), 1),
    "circle(3,0,": (("circle", 3, 0), 1),
    "circle(3,1,": (("circle", 3, 1), 1),
    "circle(3,2,": (("circle", 3, 2), 1),
    "since(": (("since",), 2),
    "among(": (("among",), 2),
}


def read_question(text, names):
    """The tree of a question, None if the text has none of the forms."""
    forms = _forms_in_order(text, names)
    if forms is None:
        return None
    tree = _tree_of(forms)
    # The order of the forms alone tells the tree; whether each bracket and comma is in its place, the text of it does.
    if tree is None or write_question(tree) != text:
        return None
    return tree


def write_question(tree):
    """The text of a question's tree."""
    pieces = []
    waiting = [tree]
    while waiting:
        item = waiting.pop()
        if isinstance(item, tuple):
            waiting.extend(_items(item)[::-1])
        else:
            pieces.append(str(item))
    return "".join(pieces)


def parts(tree):
    """How many parts a question has, itself included."""
    count = 0
    waiting = [tree]
    while waiting:
        part = waiting.pop()
        count += 1
        waiting.extend(questions_in(part))
    return count


def questions_in(tree):
    """The trees of the questions that a question is made of: A, B, C, as far as it has them."""
    return [item for item in tree if isinstance(item, tuple)]


def _items(tree):
    """What is written for a tree, in order: texts, integers, and the trees that it is made of."""
    if len(tree) == 1:
        return [tree[0]]
    items = [tree[0], "("]
    for item in tree[1:]:
        items.append(item)
        items.append(",")
    items[-1] = ")"
    return items


def _forms_in_order(text, names):
    """The values of OPENINGS for all questions that begin in the text, in order, None if something else stands there.

    Brackets and commas behind them are passed over.
    """
    openings = dict(OPENINGS)
    for name in names:
        openings[f"is({name})"] = (("is", name), 0)
    forms = []
    at = 0
    while at < len(text):
        opening = _opening_at(text, at, openings)
        if opening is None:
            return None
        forms.append(openings[opening])
        at = _behind_marks(text, at + len(opening))
    return forms


def _opening_at(text, at, openings):
    """The opening that stands in the text from this index on, None if there is none."""
    for opening in openings:
        if text.startswith(opening, at):
            return opening
    return None


def _behind_marks(text, at):
    """The first index from this one on at which neither a closing bracket nor a comma stands."""
    while at < len(text) and text[at] in "),":
        at += 1
    return at


def _tree_of(forms):
    """The tree whose parts begin in this order, None if there are too few of them or too many."""
    trees = []
    for fields, count in reversed(forms):
        if len(trees) < count:
            return None
        # From the last form on, the latest trees are those that it is made of, its first one the very last.
        split = len(trees) - count
        tree = fields + tuple(trees[split:][::-1])
        del trees[split:]
        trees.append(tree)
    if len(trees) != 1:
        return None
    return trees[0]
