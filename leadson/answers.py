"""Answers, each of which shows by its own fields whether it holds."""

from leadson.checks import are_places, is_count, is_leading
from leadson.leadings import after, times
from leadson.rings import rings_of_length


class Answer:
    pass


class Steps(Answer):
    def __init__(self, many):
        self.many = many

    def shows(self, leading, one, other):
        return is_count(self.many) and after(leading, one, self.many) == other


class Shut(Answer):
    def __init__(self, places):
        self.places = list(places)

    def shows(self, leading, one, other):
        return parts(self.places, leading, one, other) and none_leads_out(self.places, leading)


class Met(Answer):
    def __init__(self, mine, theirs):
        self.mine = mine
        self.theirs = theirs

    def shows(self, leading, one, other):
        if not is_count(self.mine) or not is_count(self.theirs):
            return False
        return after(leading, one, self.mine) == after(leading, other, self.theirs)


class Apart(Answer):
    def __init__(self, places):
        self.places = list(places)

    def shows(self, leading, one, other):
        if not parts(self.places, leading, one, other):
            return False
        return none_leads_out(self.places, leading) and none_leads_in(self.places, leading)


class Root(Answer):
    def __init__(self, leading):
        self.leading = list(leading)

    def shows(self, leading):
        return is_leading(self.leading) and times(self.leading, 2) == leading


class Odd(Answer):
    def __init__(self, length, rings):
        self.length = length
        self.rings = [list(ring) for ring in rings]

    def shows(self, leading):
        if self.length % 2 == 1 or len(self.rings) % 2 == 0:
            return False
        return self.rings == rings_of_length(leading, self.length)


def parts(places, leading, one, other):
    # Asked ahead of what leads out or in: there a number below 0 would count from the leading's end.
    return are_places(places, len(leading)) and one in places and other not in places


def none_leads_out(places, leading):
    among = marked(places)
    return all([leading[place] in among for place in places])


def none_leads_in(places, leading):
    among = marked(places)
    return all([start in among for start, end in enumerate(leading) if end in among])


def marked(places):
    return dict([(place, True) for place in places])
