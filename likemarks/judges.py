"""Several judges' marks of works, put right exactly, as fractions.

Marks are kept as a dict from (judge, work) to the mark. A fraction is a tuple
(above, below) in lowest terms, with below greater than 0.
"""

JUDGES = 6
WORKS = 16
GREATEST_MARK = 1000

OUT_OF_RANGE = -22
NO_SUCH_MARK = -2

BEGIN = 0
MARK = 1
UNMARK = 2
WORK = 3

# By a call's number: how many whole numbers stand behind it.
ARGUMENT_COUNTS = (0, 3, 2, 1)

# A work has 1 to 6 marks. Of 60 the share of each is whole, so the equations
# for the hands, taken 60 times, hold whole numbers alone.
SCALE = 60


def answers(calls):
    """Answer the calls of one list, made one behind another on a new object."""
    marks = {}
    answered = []
    start = 0
    while start < len(calls):
        number = calls[start]
        behind = start + 1 + ARGUMENT_COUNTS[number]
        answer = answer_call(marks, number, calls[start + 1:behind])
        answered.append(len(answer))
        answered.extend(answer)
        start = behind
    return answered


def answer_call(marks, number, given):
    if number == BEGIN:
        return call_begin(marks)
    if number == MARK:
        return call_mark(marks, given[0], given[1], given[2])
    if number == UNMARK:
        return call_unmark(marks, given[0], given[1])
    return call_work(marks, given[0])


def call_begin(marks):
    marks.clear()
    return [0]


def call_mark(marks, judge, work, mark):
    if judge >= JUDGES or work >= WORKS or mark > GREATEST_MARK:
        return [OUT_OF_RANGE]
    marks[(judge, work)] = mark
    return [len(marks)]


def call_unmark(marks, judge, work):
    if judge >= JUDGES or work >= WORKS:
        return [OUT_OF_RANGE]
    if (judge, work) not in marks:
        return [NO_SUCH_MARK]
    marks.pop((judge, work))
    return [len(marks)]


def call_work(marks, work):
    if work >= WORKS:
        return [OUT_OF_RANGE]
    if len(judges_of(marks, work)) == 0:
        return [NO_SUCH_MARK]
    right = put_right(marks, work)
    return [0, right[0], right[1]]


def judges_of(marks, work):
    """The judges that marked this work."""
    return [judge for judge in range(JUDGES) if (judge, work) in marks]


def works_of(marks, judge):
    """The works that this judge marked."""
    return [work for work in range(WORKS) if (judge, work) in marks]


def group_of(marks, judge):
    """The judges that hang together with this one, itself too."""
    group = [judge]
    followed = 0
    while followed < len(group):
        for work in works_of(marks, group[followed]):
            for other in judges_of(marks, work):
                if other not in group:
                    group.append(other)
        followed += 1
    return group


def put_right(marks, work):
    """The mark put right of a work that has a mark."""
    hands = hands_of_all(marks)
    judges = judges_of(marks, work)
    total = (0, 1)
    for judge in judges:
        total = added(total, less((marks[(judge, work)], 1), hands[judge]))
    return lowest(total[0], total[1] * len(judges))


def hands_of_all(marks):
    """Each judge's hand, by the judge's number; 0 for one that marked nothing."""
    return solution([hand_equation(marks, judge) for judge in range(JUDGES)])


def hand_equation(marks, judge):
    """How many times each hand is taken in this judge's equation, then what that comes to.

    The equation says that what is left of the judge's marks is 0 all together,
    with each work's mark put right written as the mean that it is.
    """
    # These equations alone leave a group's hands open by one number for all. A
    # group's sums even out to 0, so adding the hands of the group to each of its
    # equations forces the hands to be 0 all together and changes nothing else.
    group = group_of(marks, judge)
    row = [1 if other in group else 0 for other in range(JUDGES)]
    left = 0
    for work in works_of(marks, judge):
        judges = judges_of(marks, work)
        share = SCALE // len(judges)
        row[judge] += SCALE
        left += SCALE * marks[(judge, work)]
        for other in judges:
            row[other] -= share
            left -= share * marks[(other, work)]
    return row + [left]


def solution(rows):
    """The fractions that fulfil the equations, one unknown for each row."""
    # No row is ever 0 at its own place, nor below: the equations for the hands
    # are symmetric and positive definite, and clearing keeps those signs.
    places = list(range(len(rows)))
    current = rows
    for place in places:
        current = [current[k] if k == place else cleared(current[k], current[place], place) for k in places]
    return [lowest(current[k][-1], current[k][k]) for k in places]


def cleared(row, by, place):
    """The row, as many times as keeps it whole, with 0 at the place."""
    return [by[place] * row[k] - row[place] * by[k] for k in range(len(row))]


def added(one, other):
    return lowest(one[0] * other[1] + other[0] * one[1], one[1] * other[1])


def less(one, other):
    return lowest(one[0] * other[1] - other[0] * one[1], one[1] * other[1])


def lowest(above, below):
    """The fraction in lowest terms; below is greater than 0."""
    divisor = greatest_divisor(abs(above), below)
    return (above // divisor, below // divisor)


def greatest_divisor(one, other):
    while other > 0:
        rest = one % other
        one = other
        other = rest
    return one
