"""Writes lines of calls and reads what is answered, for the tests."""

from likemarks.judges import answers

NUMBERS = {"begin": 0, "mark": 1, "unmark": 2, "work": 3, "hand": 4, "same": 5, "order": 6, "off": 7}

GREATEST = 4294967295


def line(*calls):
    """A list of calls, begin first; a call is written as ("mark", 0, 1, 2)."""
    numbers = [0]
    for call in calls:
        numbers.append(NUMBERS[call[0]])
        numbers.extend(call[1:])
    return numbers


def split(numbers):
    """What is answered, a list for each call."""
    found = []
    at = 0
    while at < len(numbers):
        count = numbers[at]
        found.append(numbers[at + 1:at + 1 + count])
        if len(found[-1]) != count:
            raise AssertionError(f"an answer is cut short: {numbers}")
        at += 1 + count
    return found


def told(*calls):
    """What each call answers, without that of the first begin."""
    found = split(answers(line(*calls)))
    if found[0] != [0]:
        raise AssertionError(f"begin answered {found[0]}")
    return found[1:]


def last(*calls):
    return told(*calls)[-1]


def marking(marks):
    """The calls that give the marks of a dict from (judge, work) to the mark."""
    return [("mark", judge, work, mark) for (judge, work), mark in marks.items()]


def asked(marks, *calls):
    """What each of the calls answers when these marks have been given."""
    return told(*marking(marks), *calls)[len(marks):]


def works_told(marks):
    """A dict from each marked work to what work answers of it."""
    works = sorted({work for _, work in marks})
    return dict(zip(works, asked(marks, *[("work", work) for work in works])))


def hands_told(marks):
    """A dict from each judge with a mark to what hand answers of them."""
    judges = sorted({judge for judge, _ in marks})
    return dict(zip(judges, asked(marks, *[("hand", judge) for judge in judges])))


def some_marks(source, judges, works, share, greatest):
    """Marks of some of the judges and works; about so many of 100 that there could be."""
    marks = {}
    for judge in range(judges):
        for work in range(works):
            if source.randrange(100) < share:
                marks[(judge, work)] = source.randint(0, greatest)
    return marks
