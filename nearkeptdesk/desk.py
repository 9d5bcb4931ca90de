"""The desk: the land with its lines, what is set, all that is made of it, and the messages sent.

A desk's values are put in anew, never altered where they lie, so that a twin may share them.
"""

from nearkeptdesk.choice import chosen_places, near_places, nearest_chosen
from nearkeptdesk.marks import marks_in_order
from nearkeptdesk.signposts import address_of, how_far, table_of, way_of
from nearkeptdesk.ways import distances, kept_lines


class Made:
    def __init__(self, desk):
        count = desk.places
        base = kept_lines(count, desk.lines, desk.times)
        far = distances(count, base)
        nearest = [nearest_chosen(far, desk.choice, place) for place in range(count)]
        # The lines it was made of tell later whether it's fresh.
        self.source = desk.lines
        self.base = base
        self.far = far
        self.nearest = nearest
        self.marks = marks_in_order(far, desk.order)
        self.tables = [table_of(far, base, desk.choice, nearest, place) for place in range(count)]
        self.addresses = [address_of(far, base, nearest, place) for place in range(count)]

    def count_marks(self):
        return sum([len(marks) for marks in self.marks])

    def count_near(self):
        return sum([len(near_places(self.far, self.nearest, place)) for place in range(len(self.far))])

    def count_entries(self):
        return sum([len(table) for table in self.tables])


class Desk:
    def __init__(self, places):
        self.places = places
        self.lines = []
        self.times = 1
        self.order = list(range(places))
        self.choice = 0
        self.sent = 0
        self.lost = 0
        self.gone = 0
        self.made = None

    def make(self):
        self.made = Made(self)

    def twin(self):
        other = Desk(self.places)
        other.lines = self.lines
        other.times = self.times
        other.order = self.order
        other.choice = self.choice
        other.sent = self.sent
        other.lost = self.lost
        other.gone = self.gone
        other.made = self.made
        return other

    def has_places(self, numbers):
        return all([number < self.places for number in numbers])

    def chosen(self):
        return chosen_places(self.choice, self.places)

    def message_way(self, u, v):
        return way_of(self.made.tables, self.made.addresses[v], u)

    def message_goes(self, u, v):
        return how_far(self.lines, self.message_way(u, v), v)

    def post(self, u, v):
        distance = self.message_goes(u, v)
        self.sent += 1
        if distance is None:
            self.lost += 1
            return 0
        self.gone += distance
        return 1


def new_desk(places):
    desk = Desk(places)
    desk.make()
    return desk
