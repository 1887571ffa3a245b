"""Calls on one new object, read from a list of whole numbers and answered by another."""

from truthstore.calls import answer_add, answer_both, answer_chance, answer_choose, answer_every, answer_not
from truthstore.calls import answer_put, answer_set, answer_some
from truthstore.faults import Fault
from truthstore.refusals import NoVariables, Refusal
from truthstore.store import Store
from truthstore.variables import variables_of

VARS = 0
ADD = 1
BOTH = 2
NOT = 3
CHOOSE = 4
SET = 5
SOME = 6
EVERY = 7
PUT = 8
CHANCE = 9

# For each call, by its number, how many whole numbers it has, and how many rows.
FORMS = {
    0: (0, 1), 1: (0, 1), 2: (3, 0), 3: (1, 0), 4: (3, 0), 5: (3, 0), 6: (2, 0), 7: (2, 0), 8: (3, 0), 9: (1, 0),
}


class Call:
    """A call's number, its whole numbers, its row if it has one, and the place right behind it."""

    def __init__(self, number, numbers, row, behind):
        self.number = number
        self.numbers = numbers
        self.row = row
        self.behind = behind


class Keeper:
    """The object that the calls are made on: it holds names of variables and a store, or None."""

    def __init__(self):
        self.names = []
        self.store = None

    def answer(self, call):
        """The numbers that are answered to the call."""
        if call.number == VARS:
            return self.hold(call.row)
        try:
            return self.answer_held(call)
        except Refusal as refusal:
            return [refusal.number]

    def hold(self, text):
        """Hold the variables that the text tells, with an empty store."""
        try:
            told = variables_of(text)
        except Fault as fault:
            return [0, fault.code, fault.place]
        self.names = told.names
        self.store = Store(told.chances)
        return [1]

    def answer_held(self, call):
        """What is answered to a call that needs variables."""
        if self.store is None:
            raise NoVariables()
        if call.number == ADD:
            return answer_add(self.store, self.names, call.row)
        return answer_numbers(self.store, call.number, call.numbers)


def answer_numbers(store, number, told):
    """What is answered to a call that has whole numbers alone."""
    if number == BOTH:
        return answer_both(store, told[0], told[1], told[2])
    if number == NOT:
        return answer_not(store, told[0])
    if number == CHOOSE:
        return answer_choose(store, told[0], told[1], told[2])
    if number == SET:
        return answer_set(store, told[0], told[1], told[2])
    if number == SOME:
        return answer_some(store, told[0], told[1])
    if number == EVERY:
        return answer_every(store, told[0], told[1])
    if number == PUT:
        return answer_put(store, told[0], told[1], told[2])
    return answer_chance(store, told[0])


def call_at(calls, place):
    """The call that begins at this place of the list."""
    number = calls[place]
    form = FORMS[number]
    behind = place + 1 + form[0]
    numbers = calls[place + 1:behind]
    row = []
    if form[1] == 1:
        first = behind + 1
        behind = first + calls[behind]
        row = calls[first:behind]
    return Call(number, numbers, row, behind)


def answers(calls):
    """For each call, in order, how many numbers are answered, and then these."""
    keeper = Keeper()
    found = []
    place = 0
    while place < len(calls):
        call = call_at(calls, place)
        told = keeper.answer(call)
        found.append(len(told))
        found.extend(told)
        place = call.behind
    return found
