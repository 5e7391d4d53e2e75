"""Several judges' marks of works, put right exactly, as fractions.

Marks are kept as a dict from (judge, work) to the mark. A fraction is a tuple
(above, below) in lowest terms, with below greater than 0.
"""

JUDGES = 6
WORKS = 16
GREATEST_MARK = 1000

OUT_OF_RANGE = -22
NO_SUCH_MARK = -2

BEGIN = 0
MARK = 1
UNMARK = 2
WORK = 3
HAND = 4
SAME = 5
ORDER = 6

# By a call's number: how many whole numbers stand behind it. The last one is off.
ARGUMENT_COUNTS = (0, 3, 2, 1, 1, 2, 1, 0)

# A work has 1 to 6 marks. Of 60 the share of each is whole, so the equations
# for the hands, taken 60 times, hold whole numbers alone.
SCALE = 60


def answers(calls):
    """Answer the calls of one list, made one behind another on a new object."""
    marks = {}
    answered = []
    start = 0
    while start < len(calls):
        number = calls[start]
        behind = start + 1 + ARGUMENT_COUNTS[number]
        answer = answer_call(marks, number, calls[start + 1:behind])
        answered.append(len(answer))
        answered.extend(answer)
        start = behind
    return answered


def answer_call(marks, number, given):
    if number == BEGIN:
        return call_begin(marks)
    if number == MARK:
        return call_mark(marks, given[0], given[1], given[2])
    if number == UNMARK:
        return call_unmark(marks, given[0], given[1])
    if number == WORK:
        return call_work(marks, given[0])
    if number == HAND:
        return call_hand(marks, given[0])
    if number == SAME:
        return call_same(marks, given[0], given[1])
    if number == ORDER:
        return call_order(marks, given[0])
    return call_off(marks)


def call_begin(marks):
    marks.clear()
    return [0]


def call_mark(marks, judge, work, mark):
    if judge >= JUDGES or work >= WORKS or mark > GREATEST_MARK:
        return [OUT_OF_RANGE]
    marks[(judge, work)] = mark
    return [len(marks)]


def call_unmark(marks, judge, work):
    if judge >= JUDGES or work >= WORKS:
        return [OUT_OF_RANGE]
    if (judge, work) not in marks:
        return [NO_SUCH_MARK]
    marks.pop((judge, work))
    return [len(marks)]


def call_work(marks, work):
    if work >= WORKS:
        return [OUT_OF_RANGE]
    if not has_mark(marks, work):
        return [NO_SUCH_MARK]
    right = put_right(marks, hands_of_all(marks), work)
    return [0, right[0], right[1]]


def call_hand(marks, judge):
    if judge >= JUDGES:
        return [OUT_OF_RANGE]
    if len(works_of(marks, judge)) == 0:
        return [NO_SUCH_MARK]
    hand = hands_of_all(marks)[judge]
    return [0, hand[0], hand[1]]


def call_same(marks, work, other):
    if work >= WORKS or other >= WORKS:
        return [OUT_OF_RANGE]
    if not has_mark(marks, work) or not has_mark(marks, other):
        return [NO_SUCH_MARK]
    return [1 if other in compared_with(marks, work) else 0]


def call_order(marks, work):
    if work >= WORKS:
        return [OUT_OF_RANGE]
    if not has_mark(marks, work):
        return [NO_SUCH_MARK]
    works = greatest_first(marks, compared_with(marks, work))
    return [len(works)] + works


def call_off(marks):
    rest = sum_of_squares(marks)
    return [0, rest[0], rest[1]]


def has_mark(marks, work):
    return len(judges_of(marks, work)) > 0


def judges_of(marks, work):
    """The judges that marked this work."""
    return [judge for judge in range(JUDGES) if (judge, work) in marks]


def works_of(marks, judge):
    """The works that this judge marked."""
    return [work for work in range(WORKS) if (judge, work) in marks]


def group_of(marks, judge):
    """The judges that hang together with this one, itself too."""
    group = [judge]
    followed = 0
    while followed < len(group):
        for work in works_of(marks, group[followed]):
            for other in judges_of(marks, work):
                if other not in group:
                    group.append(other)
        followed += 1
    return group


def compared_with(marks, work):
    """The works that are compared with one that has a mark, itself too, by number."""
    # All judges of one work hang together, so any of them leads to the group.
    works = []
    for judge in group_of(marks, judges_of(marks, work)[0]):
        works.extend(works_of(marks, judge))
    return sorted(set(works))


def greatest_first(marks, works):
    """These works by their marks put right, of like ones the lesser number first."""
    rights = rights_of(marks, hands_of_all(marks), works)
    below = common_below(list(rights.values()))
    return sorted(works, key=lambda work: (-times(rights[work], below), work))


def sum_of_squares(marks):
    """The squares of what is left of each mark, less its work's mark put right and its judge's hand."""
    hands = hands_of_all(marks)
    rights = rights_of(marks, hands, [work for work in range(WORKS) if has_mark(marks, work)])
    # Taken so many times all that is left is whole, and only the sum is brought to lowest terms.
    below = common_below(hands + list(rights.values()))
    total = 0
    for judge in range(JUDGES):
        for work in works_of(marks, judge):
            left = below * marks[(judge, work)] - times(rights[work], below) - times(hands[judge], below)
            total += left * left
    return lowest(total, below * below)


def rights_of(marks, hands, works):
    """A dict from each of these works, which have marks, to its mark put right."""
    rights = {}
    for work in works:
        rights[work] = put_right(marks, hands, work)
    return rights


def put_right(marks, hands, work):
    """The mark put right of a work that has a mark."""
    judges = judges_of(marks, work)
    total = (0, 1)
    for judge in judges:
        total = added(total, less((marks[(judge, work)], 1), hands[judge]))
    return lowest(total[0], total[1] * len(judges))


def hands_of_all(marks):
    """Each judge's hand, by the judge's number; 0 for one that marked nothing."""
    return solution([hand_equation(marks, judge) for judge in range(JUDGES)])


def hand_equation(marks, judge):
    """How many times each hand is taken in this judge's equation, then what that comes to.

    The equation says that what is left of the judge's marks is 0 all together,
    with each work's mark put right written as the mean that it is.
    """
    # These equations alone leave a group's hands open by one number for all. A
    # group's sums even out to 0, so adding the hands of the group to each of its
    # equations forces the hands to be 0 all together and changes nothing else.
    group = group_of(marks, judge)
    row = [1 if other in group else 0 for other in range(JUDGES)]
    left = 0
    for work in works_of(marks, judge):
        judges = judges_of(marks, work)
        share = SCALE // len(judges)
        row[judge] += SCALE
        left += SCALE * marks[(judge, work)]
        for other in judges:
            row[other] -= share
            left -= share * marks[(other, work)]
    return row + [left]


def solution(rows):
    """The fractions that fulfil the equations, one unknown for each row."""
    # No row is ever 0 at its own place, nor below: the equations for the hands
    # are symmetric and positive definite, and clearing keeps those signs.
    places = list(range(len(rows)))
    current = rows
    for place in places:
        current = [current[k] if k == place else cleared(current[k], current[place], place) for k in places]
    return [lowest(current[k][-1], current[k][k]) for k in places]


def cleared(row, by, place):
    """The row, as many times as keeps it whole, with 0 at the place."""
    return [by[place] * row[k] - row[place] * by[k] for k in range(len(row))]


def added(one, other):
    return lowest(one[0] * other[1] + other[0] * one[1], one[1] * other[1])


def less(one, other):
    return lowest(one[0] * other[1] - other[0] * one[1], one[1] * other[1])


def lowest(above, below):
    """The fraction in lowest terms; below is greater than 0."""
    divisor = greatest_divisor(abs(above), below)
    return (above // divisor, below // divisor)


def common_below(fractions):
    """The least number, above 0, that makes each of the fractions whole when taken so many times."""
    common = 1
    for fraction in fractions:
        common = common * fraction[1] // greatest_divisor(common, fraction[1])
    return common


def times(fraction, below):
    """The fraction taken so many times, where that makes it whole."""
    return fraction[0] * (below // fraction[1])


def greatest_divisor(one, other):
    while other > 0:
        rest = one % other
        one = other
        other = rest
    return one
