"""What is handed in, held against what it must be."""

from leadson.errors import BadLeading, BadPlace, BadSteps, NotBack

# No error's words show what is refused: Python won't write out a very great number, and would
# raise an error of its own in the place of the one that is told.


def is_whole(value):
    # True and False would pass for 1 and 0 otherwise.
    return isinstance(value, int) and not isinstance(value, bool)


def is_count(value):
    return is_whole(value) and value >= 0


def is_place(value, count):
    return is_whole(value) and 0 <= value < count


def are_places(values, count):
    return all([is_place(value, count) for value in values])


def is_leading(value):
    return isinstance(value, list) and are_places(value, len(value))


def check_leading(leading):
    if not is_leading(leading):
        raise BadLeading("a leading is a list of whole numbers from 0 to one less than their count")


def check_place(leading, place):
    if not is_place(place, len(leading)):
        raise BadPlace("a place is a whole number from 0 to one less than the leading's count")


def check_steps(steps):
    if not is_count(steps):
        raise BadSteps("a count of steps is a whole number from 0 on")


def check_back(leading):
    # As many ends as places, so that where none comes twice none is wanting either.
    if len(set(leading)) != len(leading):
        raise NotBack("two places lead to one place")
