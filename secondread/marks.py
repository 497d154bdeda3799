"""Marks: the exact fraction that comes from the points of a paper's readings."""


def lowest(top, bottom):
    divisor = greatest_divisor(top, bottom)
    return [top // divisor, bottom // divisor]


def greatest_divisor(one, other):
    divisor = one
    rest = other
    while rest > 0:
        next_rest = divisor % rest
        divisor = rest
        rest = next_rest
    return divisor


def agree(one, other, step):
    return abs(one - other) <= step


def mark_of(points, step):
    if len(points) == 3:
        return lowest(middle_of(points), 1)
    if agree(points[0], points[1], step):
        return lowest(sum(points), 2)
    return lowest(min(points), 1)


def middle_of(points):
    return sorted(points)[1]
