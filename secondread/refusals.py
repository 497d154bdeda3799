"""The refusals that ask for nothing but numbers."""

from secondread.errors import Full, OutOfBounds, UnknownNumber


# No error tells the number itself: it may have more figures than Python turns into a text.
def refuse_unknown(number, least, most):
    if number < least or number > most:
        raise UnknownNumber("nothing has this number")


def refuse_out_of_bounds(number, most):
    if number < 0 or number > most:
        raise OutOfBounds("the number is out of its bounds")


def refuse_full(many, most):
    if many >= most:
        raise Full("no more can be brought")
