"""Calls on one new object, read from a list of whole numbers and answered by another."""

from truthstore.calls import answer_add, answer_both, answer_choose, answer_every, answer_not, answer_put
from truthstore.calls import answer_set, answer_some
from truthstore.faults import Fault
from truthstore.questions import answer_best, answer_chance, answer_given, answer_hangs, answer_list, answer_node
from truthstore.questions import answer_nodes, answer_says, answer_size_by, answer_sizes, answer_ways
from truthstore.refusals import NoVariables, Refusal
from truthstore.store import Store
from truthstore.variables import variables_of

VARS = 0
ADD = 1
BOTH = 2
NOT = 3
CHOOSE = 4
SET = 5
SOME = 6
EVERY = 7
PUT = 8
CHANCE = 9
GIVEN = 10
WAYS = 11
NODE = 12
NODES = 13
HANGS = 14
SAYS = 15
LIST = 16
BEST = 17
SIZE_BY = 18

# For each call, by its number, how many whole numbers it has, and how many rows.
FORMS = {
    0: (0, 1), 1: (0, 1), 2: (3, 0), 3: (1, 0), 4: (3, 0), 5: (3, 0), 6: (2, 0), 7: (2, 0), 8: (3, 0), 9: (1, 0),
    10: (2, 0), 11: (1, 0), 12: (1, 0), 13: (1, 0), 14: (1, 0), 15: (1, 1), 16: (2, 0), 17: (1, 0), 18: (1, 1),
    19: (0, 0),
}


class Call:
    """A call's number, its whole numbers, its row if it has one, and the place right behind it."""

    def __init__(self, number, numbers, row, behind):
        self.number = number
        self.numbers = numbers
        self.row = row
        self.behind = behind


class Keeper:
    """The object that the calls are made on: it holds names of variables and a store, or None."""

    def __init__(self):
        self.names = []
        self.store = None

    def answer(self, call):
        """The numbers that are answered to the call."""
        if call.number == VARS:
            return self.hold(call.row)
        try:
            return self.answer_held(call)
        except Refusal as refusal:
            return [refusal.number]

    def hold(self, text):
        """Hold the variables that the text tells, with an empty store."""
        try:
            told = variables_of(text)
        except Fault as fault:
            return [0, fault.code, fault.place]
        self.names = told.names
        self.store = Store(told.chances)
        return [1]

    def answer_held(self, call):
        """What is answered to a call that needs variables."""
        if self.store is None:
            raise NoVariables()
        if call.number == ADD:
            return answer_add(self.store, self.names, call.row)
        if call.number <= PUT:
            return answer_made(self.store, call.number, call.numbers)
        return answer_asked(self.store, call.number, call.numbers, call.row)


def answer_made(store, number, told):
    """What is answered to a call that makes a diagram of others."""
    if number == BOTH:
        return answer_both(store, told[0], told[1], told[2])
    if number == NOT:
        return answer_not(store, told[0])
    if number == CHOOSE:
        return answer_choose(store, told[0], told[1], told[2])
    if number == SET:
        return answer_set(store, told[0], told[1], told[2])
    if number == SOME:
        return answer_some(store, told[0], told[1])
    if number == EVERY:
        return answer_every(store, told[0], told[1])
    return answer_put(store, told[0], told[1], told[2])


def answer_asked(store, number, told, row):
    """What is answered to a call that makes nothing."""
    if number == CHANCE:
        return answer_chance(store, told[0])
    if number == GIVEN:
        return answer_given(store, told[0], told[1])
    if number == WAYS:
        return answer_ways(store, told[0])
    if number == NODE:
        return answer_node(store, told[0])
    if number == NODES:
        return answer_nodes(store, told[0])
    if number == HANGS:
        return answer_hangs(store, told[0])
    if number == SAYS:
        return answer_says(store, told[0], row)
    if number == LIST:
        return answer_list(store, told[0], told[1])
    if number == BEST:
        return answer_best(store, told[0])
    if number == SIZE_BY:
        return answer_size_by(store, told[0], row)
    return answer_sizes(store)


def call_at(calls, place):
    """The call that begins at this place of the list."""
    number = calls[place]
    form = FORMS[number]
    behind = place + 1 + form[0]
    numbers = calls[place + 1:behind]
    row = []
    if form[1] == 1:
        first = behind + 1
        behind = first + calls[behind]
        row = calls[first:behind]
    return Call(number, numbers, row, behind)


def answers(calls):
    """For each call, in order, how many numbers are answered, and then these."""
    keeper = Keeper()
    found = []
    place = 0
    while place < len(calls):
        call = call_at(calls, place)
        told = keeper.answer(call)
        found.append(len(told))
        found.extend(told)
        place = call.behind
    return found
