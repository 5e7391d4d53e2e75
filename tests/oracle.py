"""What the document's words come to, worked out apart from the program.

It shares nothing with the program: hands and marks put right are unknowns side
by side, and every sentence that is said of them is an equation of its own.
"""

from fractions import Fraction


def groups(marks):
    """The judges with a mark, in lists of those that hang together."""
    found = [{judge} for judge in sorted({judge for judge, _ in marks})]
    for work in {work for _, work in marks}:
        judges = {judge for judge, other in marks if other == work}
        joined = [group for group in found if group & judges]
        found = [group for group in found if not group & judges]
        found.append(set().union(*joined))
    return found


def equations(marks):
    """Pairs of a dict from unknown to how often it is taken, and the sum."""
    rows = []
    for work in {work for _, work in marks}:
        its = [(judge, mark) for (judge, other), mark in marks.items() if other == work]
        row = {("work", work): Fraction(1)}
        for judge, _ in its:
            row[("hand", judge)] = Fraction(1, len(its))
        rows.append((row, Fraction(sum(mark for _, mark in its), len(its))))
    for judge in {judge for judge, _ in marks}:
        theirs = [(work, mark) for (other, work), mark in marks.items() if other == judge]
        row = {("hand", judge): Fraction(len(theirs))}
        for work, _ in theirs:
            row[("work", work)] = Fraction(1)
        rows.append((row, Fraction(sum(mark for _, mark in theirs))))
    for group in groups(marks):
        rows.append(({("hand", judge): Fraction(1) for judge in group}, Fraction(0)))
    return rows


def solved(marks):
    """A dict from ("hand", judge) and ("work", work) to the one Fraction it can be."""
    rows = equations(marks)
    unknowns = sorted({name for row, _ in rows for name in row})
    table = [[row.get(name, Fraction(0)) for name in unknowns] + [total] for row, total in rows]
    for place in range(len(unknowns)):
        pivot = next(k for k in range(place, len(table)) if table[k][place] != 0)
        table[place], table[pivot] = table[pivot], table[place]
        table[place] = [number / table[place][place] for number in table[place]]
        for k in range(len(table)):
            if k != place and table[k][place] != 0:
                times = table[k][place]
                table[k] = [mine - times * its for mine, its in zip(table[k], table[place])]
    if any(row[-1] != 0 for row in table[len(unknowns):]):
        raise AssertionError("the equations contradict one another")
    return {name: table[k][-1] for k, name in enumerate(unknowns)}


def works_compared(marks, work):
    """The works that are compared with this one, itself too."""
    judges = {judge for judge, other in marks if other == work}
    group = next(group for group in groups(marks) if group & judges)
    return {other for judge, other in marks if judge in group}


def squares_left(marks, right):
    """The squares of what is left of the marks with these hands and marks put right."""
    left = [mark - right[("work", work)] - right[("hand", judge)] for (judge, work), mark in marks.items()]
    return sum((rest * rest for rest in left), Fraction(0))


def fraction_told(fraction):
    return [0, fraction.numerator, fraction.denominator]


def answered(calls):
    """What each call of a list such as ("mark", 0, 1, 2) answers; there are no marks at first."""
    marks = {}
    return [answer(marks, call[0], call[1:]) for call in calls]


def answer(marks, name, given):
    if name == "begin":
        marks.clear()
        return [0]
    judges, works, mark = {
        "mark": (given[:1], given[1:2], given[2:]), "unmark": (given[:1], given[1:], ()), "hand": (given, (), ()),
        "work": ((), given, ()), "same": ((), given, ()), "order": ((), given, ()), "off": ((), (), ()),
    }[name]
    if any(judge > 5 for judge in judges) or any(work > 15 for work in works) or any(one > 1000 for one in mark):
        return [-22]
    if name == "mark":
        marks[given[:2]] = given[2]
        return [len(marks)]
    if name == "unmark":
        return [-2] if marks.pop(given, None) is None else [len(marks)]
    if set(judges) - {judge for judge, _ in marks} or set(works) - {work for _, work in marks}:
        return [-2]
    if name == "same":
        return [int(given[1] in works_compared(marks, given[0]))]
    right = solved(marks)
    if name == "order":
        found = sorted(works_compared(marks, given[0]), key=lambda work: (-right[("work", work)], work))
        return [len(found)] + found
    return fraction_told(squares_left(marks, right) if name == "off" else right[(name, given[0])])
