"""The office: it reads calls one behind another and answers them."""

from nearkeptdesk.changes import change, is_change
from nearkeptdesk.desk import new_desk
from nearkeptdesk.looks import look
from nearkeptdesk.refusals import NOT_BEGUN, NO_CHANGE, OUT_OF_RANGE

BEGIN = 0
ORDER = 4
BACK = 25
STATE = 26

# How many whole numbers stand behind each call's number, the calls from 0 to 26; order has a row instead.
NUMBERS = (1, 3, 1, 1, 0, 1, 1, 0, 2, 0, 0, 0, 0, 2, 2, 1, 2, 0, 2, 2, 2, 2, 0, 2, 0, 0, 0)

MOST_PLACES = 8
MOST_BACK = 10


class Office:
    def __init__(self):
        self.desk = None
        self.past = []

    def answer(self, call, numbers):
        if call == BEGIN:
            return self.begin(numbers[0])
        if self.desk is None:
            return [NOT_BEGUN]
        if call == BACK:
            return self.take_back()
        if is_change(call):
            return self.take_on(change(self.desk, call, numbers))
        if call == STATE:
            return self.tell_state()
        return look(self.desk, call, numbers)

    def begin(self, places):
        if places < 1 or places > MOST_PLACES:
            return [OUT_OF_RANGE]
        self.desk = new_desk(places)
        self.past = []
        return [0]

    def take_on(self, outcome):
        if outcome[1] is not None:
            self.past = (self.past + [self.desk])[-MOST_BACK:]
            self.desk = outcome[1]
        return [outcome[0]]

    def take_back(self):
        if len(self.past) == 0:
            return [NO_CHANGE]
        self.desk = self.past[-1]
        self.past = self.past[:-1]
        return [len(self.past)]

    def tell_state(self):
        desk = self.desk
        return [desk.places, len(desk.lines), desk.times, desk.choice, len(self.past)]


def answers(calls):
    office = Office()
    told = []
    at = 0
    while at < len(calls):
        call = calls[at]
        start = at + 1
        size = NUMBERS[call]
        if call == ORDER:
            size = calls[start]
            start += 1
        at = start + size
        answer = office.answer(call, calls[start:at])
        told.append(len(answer))
        told.extend(answer)
    return told
