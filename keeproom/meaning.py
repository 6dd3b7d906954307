"""What questions answer, as they are defined: over whole rows."""

from keeproom.numbers import less, put_in
from keeproom.questions import questions_in


def meaning(tree, row):
    """What the question answers after a row of pairs (name, pair): a pair, None if nothing."""
    if len(row) == 0:
        return None
    return _answers(tree, row)[-1]


def answer_now(tree, told, name, number):
    """What now, nothing, is, less, same and if answer at a record, by what the questions in them answer there."""
    word = tree[0]
    if word == "now":
        return number
    if word == "is" and name == tree[1]:
        return number
    if word == "if":
        return told[2] if told[0] is None else told[1]
    if word == "less" and None not in told and less(told[0], told[1]):
        return told[0]
    if word == "same" and None not in told and told[0] == told[1]:
        return told[0]
    return None


def _answers(tree, row):
    """What the question answers at each record, that is, after the past of which it is the latest one."""
    word = tree[0]
    if word == "since":
        return _answers_since(tree, row)
    if word == "among":
        return _answers_among(tree, row)
    told = [_answers(part, row) for part in questions_in(tree)]
    if word in ("now", "nothing", "is", "less", "same", "if"):
        return [answer_now(tree, [answers[at] for answers in told], name, number)
                for at, (name, number) in enumerate(row)]
    if word == "before":
        return ([None] + told[0])[:-1]
    if word in ("last", "first"):
        return _latest_or_first(word, told[0])
    if word in ("great", "least"):
        return _by_order(word, tree[1], told[0])
    return _by_count(tree, told[0], row)


def _latest_or_first(word, told):
    """What last or first answers at each record, by what A answers there."""
    answers = []
    found = None
    for answer in told:
        if answer is not None and (word == "last" or found is None):
            found = answer
        answers.append(found)
    return answers


def _by_order(word, k, told):
    """What great or least answers at each record, by what A answers there."""
    answers = []
    different = ()
    for answer in told:
        if answer is not None:
            different = put_in(answer, different)
        if len(different) < k:
            answers.append(None)
        else:
            answers.append(different[-k] if word == "great" else different[k - 1])
    return answers


def _by_count(tree, told, row):
    """What times or circle answers at each record, by what A answers there."""
    answers = []
    for (_, number), count in zip(row, _counts(told)):
        if tree[0] == "times":
            is_met = count >= tree[1]
        else:
            is_met = count % tree[1] == tree[2]
        answers.append(number if is_met else None)
    return answers


def _counts(told):
    """For each record, at how many records up to it a number was answered."""
    counts = []
    count = 0
    for answer in told:
        if answer is not None:
            count += 1
        counts.append(count)
    return counts


def _answers_since(tree, row):
    """What since(A,B) answers at each record."""
    answers = []
    left = []
    for record, answer in zip(row, _answers(tree[1], row)):
        if answer is None:
            left.append(record)
        else:
            # B looks at what comes between two answers of A as if it were all.
            answers.extend(_answers(tree[2], left))
            answers.append(None)
            left = []
    answers.extend(_answers(tree[2], left))
    return answers


def _answers_among(tree, row):
    """What among(A,B) answers at each record."""
    told = _answers(tree[1], row)
    left = [record for record, answer in zip(row, told) if answer is not None]
    answers = [None] + _answers(tree[2], left)
    return [answers[count] for count in _counts(told)]
