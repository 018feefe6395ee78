"""The five stages: what goes on in them in a cycle, and in many."""

from fivestages.orders import END, JUMP, LOAD, STORE, Order, result_of

FIRST_STRETCH = 64


def newest_value(number, value, remembered, written):
    """What the order to be reckoned has of its registers, where values are handed on.

    number and value are what it read. The order in memory is the nearer one, so what it hands on counts first.
    """
    if number == 0:
        return value
    if remembered is not None and remembered[0].target == number and remembered[0].kind != LOAD:
        return remembered[1]
    if written is not None and written[0].target == number:
        return written[1]
    return value


class Pipeline:
    """A program in its stages, with its registers, memory, guesses and counts.

    What stands in a stage (None: no order does):
    to_read: the order; to_reckon: the order and the two values that it read;
    in_memory: the order, its result and its second value;
    to_write: the order and what it writes.
    """

    def __init__(self, words, way):
        self.orders = {}
        for place, word in enumerate(words):
            self.orders[place] = Order(place, word)
        self.hands_on = (way & 1) != 0
        self.guesses_goings = (way & 2) != 0
        self.registers = [0] * 16
        self.memory = [0] * 1024
        self.guesses = [1] * 16
        self.place = 0
        self.fetches = True
        self.to_read = None
        self.to_reckon = None
        self.in_memory = None
        self.to_write = None
        self.ended = False
        self.cycles = 0
        self.done = 0
        self.waited = 0
        self.lost = 0

    def cycle(self):
        """One cycle of all stages, the last one first.

        What stood in each stage is held here: all stages work at once, so an
        order that moves on is still seen where it was.
        """
        written = self.to_write
        remembered = self.in_memory
        reckoned = self.to_reckon
        read = self.to_read
        self.cycles += 1
        if written is not None:
            self.write(written)
        self.to_write = None if remembered is None else self.use_memory(remembered)
        self.in_memory = None if reckoned is None else self.reckon(reckoned, remembered, written)
        right_place = None if reckoned is None else self.place_if_wrong(self.in_memory)
        if right_place is not None:
            self.lose_guessed(right_place)
        elif read is not None and self.has_to_wait(read, reckoned, remembered):
            self.waited += 1
            self.to_reckon = None
        else:
            self.to_reckon = None if read is None else self.read_registers(read)
            self.to_read = self.fetch() if self.fetches else None
        # Last of all: the order that is fetched in this cycle is guessed by the numbers as they stood ahead of it.
        if reckoned is not None and reckoned[0].branches:
            self.learn(self.in_memory)

    def write(self, written):
        order = written[0]
        if order.target != 0:
            self.registers[order.target] = written[1]
        if order.kind == END:
            self.ended = True
        else:
            self.done += 1

    def use_memory(self, remembered):
        """What is to be written next, once the order has read or written memory."""
        order = remembered[0]
        if order.kind == LOAD:
            return (order, self.memory[remembered[1] & 1023])
        if order.kind == STORE:
            self.memory[remembered[1] & 1023] = remembered[2]
        return (order, remembered[1])

    def reckon(self, reckoned, remembered, written):
        """What is in memory next."""
        order = reckoned[0]
        x = reckoned[1]
        y = reckoned[2]
        if self.hands_on:
            x = newest_value(order.first, x, remembered, written)
            y = newest_value(order.second, y, remembered, written)
        return (order, result_of(order, x, y), y)

    def place_if_wrong(self, told):
        """The place to go on at, if another one was fetched behind the order just reckoned; else None.

        Only 9 and 10 may be guessed wrong: behind all others the right place is fetched.
        """
        order = told[0]
        if not order.branches:
            return None
        right_place = order.aim if told[1] == 1 else order.following
        fetched_place = self.place if self.to_read is None else self.to_read.place
        return None if right_place == fetched_place else right_place

    def learn(self, told):
        """Change the guess of an order 9 or 10 by where it went."""
        guess_at = told[0].guess_at
        guess = self.guesses[guess_at]
        self.guesses[guess_at] = min(3, guess + 1) if told[1] == 1 else max(0, guess - 1)

    def lose_guessed(self, right_place):
        """Take back what was guessed: an order 12 among it no longer keeps others from being fetched."""
        self.lost += 1 if self.to_read is None else 2
        self.to_read = None
        self.to_reckon = None
        self.place = right_place
        self.fetches = True

    def has_to_wait(self, order, reckoned, remembered):
        """Whether the order to be read needs what is not reckoned or written yet."""
        if self.hands_on:
            return reckoned is not None and reckoned[0].kind == LOAD and order.needs(reckoned[0].target)
        if reckoned is not None and order.needs(reckoned[0].target):
            return True
        return remembered is not None and order.needs(remembered[0].target)

    def read_registers(self, order):
        """What is to be reckoned next; what is written in this cycle stands in the registers already."""
        return (order, self.registers[order.first], self.registers[order.second])

    def fetch(self):
        """The order at the place, and the place behind it as far as it can be told or guessed."""
        order = self.order_at(self.place)
        self.fetches = order.kind != END
        goes = order.kind == JUMP or (order.branches and self.is_guessed_to_go(order))
        self.place = order.aim if goes else order.following
        return order

    def order_at(self, place):
        """The order at a place; one behind the program is made once, so that it stays the same one."""
        order = self.orders.get(place)
        if order is None:
            order = Order(place, END)
            self.orders[place] = order
        return order

    def is_guessed_to_go(self, order):
        return self.guesses_goings and self.guesses[order.guess_at] >= 2

    def run(self, cycles):
        """Let so many cycles go by; behind the end none does anything.

        A program that goes round for ever may come back to just the state it was in.
        From there on whole rounds are counted, not gone through: a line may ask for
        2000000000 cycles. Each stretch is twice as long as the last, so that a round
        of any length fits into one at last.
        """
        left = cycles
        stretch = FIRST_STRETCH
        while left > 0 and not self.ended:
            state = self.state()
            counts = self.counts()
            gone = self.run_to_state(state, min(stretch, left))
            left -= gone
            if self.is_in_state(state):
                self.count_again(counts, left // gone)
                left = left % gone
            stretch = stretch * 2

    def run_to_state(self, state, most):
        """Go on to the end, to the given state or for that many cycles; how many went by."""
        place = state[0]
        gone = 0
        while gone < most and not self.ended:
            self.cycle()
            gone += 1
            if self.place == place and self.is_in_state(state):
                break
        return gone

    def stages(self):
        return (self.to_read, self.to_reckon, self.in_memory, self.to_write)

    def state(self):
        """All that the next cycles hang on."""
        held = (list(self.registers), list(self.guesses), list(self.memory))
        return (self.place, self.fetches, self.ended, self.stages(), held)

    def is_in_state(self, state):
        """Whether all is as in that state; memory, the longest, is looked at last."""
        if self.place != state[0] or self.fetches != state[1] or self.ended != state[2]:
            return False
        if self.stages() != state[3] or self.registers != state[4][0]:
            return False
        return self.guesses == state[4][1] and self.memory == state[4][2]

    def counts(self):
        return (self.cycles, self.done, self.waited, self.lost)

    def count_again(self, earlier, times):
        """Count what came since the earlier counts that many times more."""
        self.cycles += (self.cycles - earlier[0]) * times
        self.done += (self.done - earlier[1]) * times
        self.waited += (self.waited - earlier[2]) * times
        self.lost += (self.lost - earlier[3]) * times
