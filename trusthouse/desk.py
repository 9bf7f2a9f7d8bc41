"""The desk: calls on one house, one behind another, and what each answers."""

from trusthouse.house import House

BEGIN = 0
ADD = 1
ANSWER = 2


class Calls:
    """The calls in one flat list, taken from its front on."""

    def __init__(self, row):
        self.row = row
        self.at = 0

    def ended(self):
        return self.at >= len(self.row)

    def take_one(self):
        one = self.row[self.at]
        self.at = self.at + 1
        return one

    def take_row(self):
        """A row that has ahead of it how many numbers it has."""
        size = self.take_one()
        piece = self.row[self.at:self.at + size]
        self.at = self.at + size
        return piece


def answer_add(house, calls):
    life = calls.take_one()
    name = calls.take_row()
    key = calls.take_row()
    return house.make_known(life, name, key)


def answer_answer(house, calls):
    now = calls.take_one()
    message = calls.take_row()
    fresh = calls.take_row()
    return house.answer(now, message, fresh)


def answer_show(house, calls):
    now = calls.take_one()
    name = calls.take_row()
    message = calls.take_row()
    return house.show(now, name, message)


def answer_call(house, calls):
    number = calls.take_one()
    if number == BEGIN:
        return house.begin()
    if number == ADD:
        return answer_add(house, calls)
    if number == ANSWER:
        return answer_answer(house, calls)
    return answer_show(house, calls)


def answers(calls):
    """For each call in order how many numbers it answers, then these."""
    left = Calls(calls)
    house = House()
    told = []
    while not left.ended():
        answer = answer_call(house, left)
        told.append(len(answer))
        told.extend(answer)
    return told
