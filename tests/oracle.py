"""Hands and marks put right, straight from the document's three sentences.

It shares nothing with the program: hands and marks put right are unknowns side
by side, and every sentence is an equation of its own.
"""

from fractions import Fraction


def groups(marks):
    """The judges with a mark, in lists of those that hang together."""
    found = [{judge} for judge in sorted({judge for judge, _ in marks})]
    for work in {work for _, work in marks}:
        judges = {judge for judge, other in marks if other == work}
        joined = [group for group in found if group & judges]
        found = [group for group in found if not group & judges]
        found.append(set().union(*joined))
    return found


def equations(marks):
    """Pairs of a dict from unknown to how often it is taken, and the sum."""
    rows = []
    for work in {work for _, work in marks}:
        its = [(judge, mark) for (judge, other), mark in marks.items() if other == work]
        row = {("work", work): Fraction(1)}
        for judge, _ in its:
            row[("hand", judge)] = Fraction(1, len(its))
        rows.append((row, Fraction(sum(mark for _, mark in its), len(its))))
    for judge in {judge for judge, _ in marks}:
        theirs = [(work, mark) for (other, work), mark in marks.items() if other == judge]
        row = {("hand", judge): Fraction(len(theirs))}
        for work, _ in theirs:
            row[("work", work)] = Fraction(1)
        rows.append((row, Fraction(sum(mark for _, mark in theirs))))
    for group in groups(marks):
        rows.append(({("hand", judge): Fraction(1) for judge in group}, Fraction(0)))
    return rows


def solved(marks):
    """A dict from ("hand", judge) and ("work", work) to the one Fraction it can be."""
    rows = equations(marks)
    unknowns = sorted({name for row, _ in rows for name in row})
    table = [[row.get(name, Fraction(0)) for name in unknowns] + [total] for row, total in rows]
    for place in range(len(unknowns)):
        pivot = next(k for k in range(place, len(table)) if table[k][place] != 0)
        table[place], table[pivot] = table[pivot], table[place]
        table[place] = [number / table[place][place] for number in table[place]]
        for k in range(len(table)):
            if k != place and table[k][place] != 0:
                times = table[k][place]
                table[k] = [mine - times * its for mine, its in zip(table[k], table[place])]
    if any(row[-1] != 0 for row in table[len(unknowns):]):
        raise AssertionError("the equations contradict one another")
    return {name: table[k][-1] for k, name in enumerate(unknowns)}
