"""What the tests share: calls in short, and a second account of what they must answer.

The second account knows no stages. It goes through the program one order after
another, and tells from sums alone in which cycle each order is where.
"""

from fivestages.machine import answers

BITS = 0xFFFFFFFF
SHOWS = [3]


def order(kind, d=0, a=0, b=0, n=0):
    return kind | d << 4 | a << 8 | b << 12 | (n & 0xFFFF) << 16


def load(words, way=0):
    return [1, len(words), way, len(words)] + list(words)


def go(cycles):
    return [2, cycles]


def reg(r):
    return [4, r]


def mem(a):
    return [5, a]


def split(numbers):
    """The answers, a list for each call."""
    parts = []
    at = 0
    while at < len(numbers):
        parts.append(numbers[at + 1:at + 1 + numbers[at]])
        at += 1 + numbers[at]
    return parts


def told(*calls):
    """Each call's answer."""
    line = [number for call in calls for number in call]
    assert len(line) <= 30000 and len(calls) <= 3000
    return split(answers(line))


def signed(word):
    word &= BITS
    return word - (1 << 32) if word >> 31 else word


class Step:
    """An order that was done, and what came of it."""

    def __init__(self, place, word):
        self.place = place
        self.kind = word & 15
        self.d, self.a, self.b = word >> 4 & 15, word >> 8 & 15, word >> 12 & 15
        self.n = signed((word >> 16) << 16) >> 16
        self.goes = False
        self.written = None
        self.stored = None
        self.next_place = (place + 1) & BITS

    def reads(self):
        names = []
        if self.kind <= 10:
            names.append(self.a)
        if self.kind in (0, 1, 2, 3, 4, 5, 8, 9, 10):
            names.append(self.b)
        return names

    def run(self, registers, memory):
        x, y = registers[self.a], registers[self.b]
        address = (x + self.n) % 1024
        far = (self.place + self.n) & BITS
        results = {
            0: x + y, 1: x - y, 2: x & y, 3: x | y, 4: x ^ y, 5: int(signed(x) < signed(y)),
            6: x + self.n, 7: memory[address], 11: self.place + 1,
        }
        if self.kind in results and self.d:
            self.written = (self.d, results[self.kind] & BITS)
            registers[self.d] = self.written[1]
        if self.kind == 8:
            self.stored = (address, y)
            memory[address] = y
        self.goes = self.kind == 11 or self.kind == 9 and x == y or self.kind == 10 and x != y
        if self.goes:
            self.next_place = far


def one_by_one(words, most):
    """At most so many orders, one after another: the steps, the registers and the memory."""
    registers, memory, steps, place = [0] * 16, [0] * 1024, [], 0
    while len(steps) < most:
        step = Step(place, words[place] if place < len(words) else 12)
        steps.append(step)
        step.run(registers, memory)
        if step.kind == 12:
            break
        place = step.next_place
    return steps, registers, memory


class Timetable:
    """In which cycle each order is fetched, leaves the stage of reading (its `left`), and is reckoned."""

    def __init__(self, words, way, most):
        self.steps = one_by_one(words, most)[0]
        guesses, told_later, writers = [1] * 16, [], {}
        fetched, ahead = 1, None
        for step in self.steps:
            while told_later and told_later[0].reckoned < fetched:
                known = told_later.pop(0)
                number = guesses[known.place & 15] + (1 if known.goes else -1)
                guesses[known.place & 15] = min(3, max(0, number))
            guessed = bool(way & 2) and step.kind in (9, 10) and guesses[step.place & 15] >= 2
            step.fetched = fetched
            step.left = self.leaving(step, way, writers, ahead)
            step.reckoned = step.left + 1
            step.guessed_place = (step.place + (step.n if guessed or step.kind == 11 else 1)) & BITS
            step.wrong = step.kind != 12 and step.guessed_place != step.next_place
            if step.kind in (9, 10):
                told_later.append(step)
            if step.written:
                writers[step.d] = step.reckoned
            fetched = step.reckoned + 1 if step.wrong else step.left
            ahead = step

    def leaving(self, step, way, writers, ahead):
        first = step.fetched + 1
        if not way & 1:
            return max([first] + [writers.get(name, 0) + 2 for name in step.reads()])
        behind_load = ahead and ahead.kind == 7 and ahead.written and ahead.d in step.reads()
        return first + 1 if behind_load and ahead.reckoned == first else first

    def ending(self):
        last = self.steps[-1]
        return last.reckoned + 2 if last.kind == 12 else None

    def shows(self, cycle):
        ends = self.ending()
        places = [-1, -1, -1, -1]
        done = waited = lost = 0
        for step in self.steps:
            if step.fetched <= cycle < step.left:
                places[0] = signed(step.place)
            if step.wrong and cycle == step.left:
                places[0] = signed(step.guessed_place)
            if -1 <= cycle - step.reckoned <= 1:
                places[2 + cycle - step.reckoned] = signed(step.place)
            done += step.kind != 12 and step.reckoned + 2 <= cycle
            waited += max(0, min(cycle + 1, step.left) - step.fetched - 1)
            lost += 2 * (step.wrong and step.reckoned <= cycle)
        ended = ends is not None and ends <= cycle
        return [int(ended)] + places + [ends if ended else cycle, done, waited, lost]

    def registers(self, cycle):
        values = [0] * 16
        for step in self.steps:
            if step.written and step.reckoned + 2 <= cycle:
                values[step.written[0]] = signed(step.written[1])
        return values

    def memory(self, cycle):
        values = [0] * 1024
        for step in self.steps:
            if step.stored and step.reckoned + 1 <= cycle:
                values[step.stored[0]] = signed(step.stored[1])
        return values


def random_words(source, most_orders, span, registers):
    """A program whose orders depend on one another and whose places stay near."""
    kinds = (0, 1, 2, 3, 4, 5, 6, 6, 6, 7, 7, 8, 8, 9, 9, 10, 10, 11, 12)
    words = []
    for place in range(source.randrange(1, most_orders + 1)):
        kind = source.choice(kinds if source.randrange(4) == 0 else kinds[:-1])
        d, a, b = [source.randrange(registers) for each in range(3)]
        words.append(order(kind, d, a, b, source.randint(-span, span)))
    return words
