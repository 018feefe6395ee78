"""The calls on one machine, and what they answer."""

from fivestages.orders import END, kind_of, with_sign
from fivestages.pipeline import Pipeline

CALL_LOAD = 1
CALL_GO = 2
CALL_SHOWS = 3
CALL_REG = 4

MOST_ORDERS = 1024
MOST_CYCLES_AT_ONCE = 1000000
MOST_CYCLES_IN_ALL = 2000000000


def shown_place(order):
    return -1 if order is None else with_sign(order.place)


class Machine:
    """One machine; each call answers a list, a refusal its number alone."""

    def __init__(self):
        self.pipeline = Pipeline([], 0)
        self.asked = 0

    def load(self, n, way, words):
        if n < 0 or n > MOST_ORDERS or way < 0 or way > 3:
            return [-1]
        if any([kind_of(word) > END for word in words]):
            return [-3]
        self.pipeline = Pipeline(words, way)
        self.asked = 0
        return [0]

    def go(self, cycles):
        if cycles < 1 or cycles > MOST_CYCLES_AT_ONCE:
            return [-1]
        if self.asked + cycles > MOST_CYCLES_IN_ALL:
            return [-4]
        self.asked += cycles
        self.pipeline.run(cycles)
        return [self.has_ended()]

    def has_ended(self):
        return 1 if self.pipeline.ended else 0

    def shows(self):
        line = self.pipeline
        reckoned = None if line.to_reckon is None else line.to_reckon[0]
        remembered = None if line.in_memory is None else line.in_memory[0]
        written = None if line.to_write is None else line.to_write[0]
        places = [shown_place(order) for order in (line.to_read, reckoned, remembered, written)]
        return [self.has_ended()] + places + list(line.counts())

    def reg(self, r):
        if r < 0 or r > 15:
            return [-1]
        return [0, with_sign(self.pipeline.registers[r])]

    def mem(self, a):
        if a < 0 or a > 1023:
            return [-1]
        return [0, with_sign(self.pipeline.memory[a])]


def end_of_call(calls, start):
    """Where the call behind the one that starts there starts."""
    number = calls[start]
    if number == CALL_LOAD:
        return start + 4 + calls[start + 3]
    if number == CALL_SHOWS:
        return start + 1
    return start + 2


def answer_of(machine, call):
    """What one call answers; call is its number and all that is handed in with it."""
    number = call[0]
    if number == CALL_LOAD:
        return machine.load(call[1], call[2], call[4:])
    if number == CALL_GO:
        return machine.go(call[1])
    if number == CALL_SHOWS:
        return machine.shows()
    if number == CALL_REG:
        return machine.reg(call[1])
    return machine.mem(call[1])


def answers(calls):
    """Answer the calls on a new machine: for each, how many numbers are answered, then these."""
    machine = Machine()
    told = []
    start = 0
    while start < len(calls):
        end = end_of_call(calls, start)
        answer = answer_of(machine, calls[start:end])
        told.append(len(answer))
        told.extend(answer)
        start = end
    return told
