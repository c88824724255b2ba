"""What is handed in, held against what it must be."""

from leadson.errors import BadLeading, BadPlace, BadSteps

# No error's words show what is refused: Python won't write out a very great number, and would
# raise an error of its own in the place of the one that is told.


def is_whole(value):
    # True and False would pass for 1 and 0 otherwise.
    return isinstance(value, int) and not isinstance(value, bool)


def is_place(value, count):
    return is_whole(value) and 0 <= value < count


def check_leading(leading):
    if not isinstance(leading, list):
        raise BadLeading("a leading is a list")
    count = len(leading)
    for place in leading:
        if not is_place(place, count):
            raise BadLeading("a leading holds whole numbers from 0 to one less than their count")


def check_place(leading, place):
    if not is_place(place, len(leading)):
        raise BadPlace("a place is a whole number from 0 to one less than the leading's count")


def check_steps(steps):
    if not is_whole(steps) or steps < 0:
        raise BadSteps("a count of steps is a whole number from 0 on")
