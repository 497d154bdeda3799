"""The sets of papers, and the order in which they come."""


def comes_before(one, other):
    if len(one) != len(other):
        return len(one) < len(other)
    for number, other_number in zip(one, other):
        if number != other_number:
            return number < other_number
    return False


def sets_of(many):
    told = []
    of_one_size = [[]]
    while len(of_one_size) > 0:
        told.extend(of_one_size)
        of_one_size = sets_one_larger(of_one_size, many)
    return told


# A set grows only by numbers above its greatest one: so each larger set comes up once,
# and sets that are in their order grow into sets that are in their order.
def sets_one_larger(of_one_size, many):
    larger = []
    for chosen in of_one_size:
        for paper in range(greatest_of(chosen) + 1, many + 1):
            larger.append(chosen + [paper])
    return larger


# 0 lies below every paper's number, so the empty set can grow by any paper.
def greatest_of(chosen):
    return max(chosen, default=0)
