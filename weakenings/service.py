"""The service: a list of calls, written in whole numbers, and its answers."""

from weakenings.errors import NoRepair, NoRoom, NoSuchAxiom, NotWeaker, UnknownCall, WrongNumbers
from weakenings.store import Store

BEGINS = 0
LINE = 1
LESS = 2
NEVER = 3
KEEP = 4
MEND = 5
LEAST = 6
CHECK = 7
DONE = 8


class Reader:
    """Goes through the calls number by number."""

    def __init__(self, calls):
        self.calls = calls
        self.place = 0

    def at_end(self):
        """Whether all calls are read."""
        return self.place >= len(self.calls)

    def take_number(self):
        """The number that stands here; the place moves behind it."""
        number = self.calls[self.place]
        self.place += 1
        return number

    def take_list(self):
        """The list that stands here, with its length ahead; the place moves behind it."""
        length = self.take_number()
        numbers = self.calls[self.place:self.place + length]
        self.place += length
        return numbers


def answers(calls):
    """For each call, in order, how many numbers are answered, then these."""
    store = Store()
    reader = Reader(calls)
    told = []
    while not reader.at_end():
        numbers = answer_of(store, reader)
        told.append(len(numbers))
        told.extend(numbers)
    return told


def answer_of(store, reader):
    """What the call that stands here answers: its result's numbers, or the code of its refusal."""
    try:
        return result_of(store, reader)
    except WrongNumbers:
        return [-1]
    except NoSuchAxiom:
        return [-2]
    except NotWeaker:
        return [-5]
    except NoRepair:
        return [-6]
    except NoRoom:
        return [-7]


def result_of(store, reader):
    """Reads the call that stands here, carries it out, and gives its result's numbers."""
    number = reader.take_number()
    if number == BEGINS:
        return [store.begins()]
    if number == LINE:
        price = reader.take_number()
        return [store.line(price, reader.take_list())]
    if number == LESS:
        index = reader.take_number()
        price = reader.take_number()
        return [store.less(index, price, reader.take_list())]
    if number == NEVER:
        return [store.never(reader.take_list())]
    if number == KEEP:
        return [store.keep(reader.take_list())]
    if number == MEND:
        return store.mend()
    if number == LEAST:
        return store.least()
    if number == CHECK:
        return store.check(reader.take_list())
    if number == DONE:
        return store.done()
    raise UnknownCall(f"no call has the number {number}")
