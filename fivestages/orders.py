"""What an order's word holds, and what an order reckons from the values of its registers."""

ALL_BITS = 4294967295
SIGN_BIT = 2147483648
LOAD = 7
STORE = 8
IF_SAME = 9
IF_OTHER = 10
JUMP = 11
END = 12

WRITING_KINDS = (0, 1, 2, 3, 4, 5, 6, 7, 11)
FIRST_READING_KINDS = (0, 1, 2, 3, 4, 5, 6, 7, 8, 9, 10)
SECOND_READING_KINDS = (0, 1, 2, 3, 4, 5, 8, 9, 10)


def with_sign(word):
    """The 32 bits of a word as a number with its sign."""
    return word - ALL_BITS - 1 if word >= SIGN_BIT else word


def kind_of(word):
    """What is done, as the lowest 4 bits say it (13 to 15 are no order)."""
    return word & 15


def number_of(word):
    """The order's number n, with its sign."""
    number = word >> 16
    return number - 65536 if number >= 32768 else number


class Order:
    """An order at its place.

    target, first and second number the registers that it writes and reads; 0
    stands for none too, since that one is never written, waited for or handed on.
    """

    def __init__(self, place, word):
        kind = kind_of(word)
        self.place = place
        self.kind = kind
        self.target = (word >> 4) & 15 if kind in WRITING_KINDS else 0
        self.first = (word >> 8) & 15 if kind in FIRST_READING_KINDS else 0
        self.second = (word >> 12) & 15 if kind in SECOND_READING_KINDS else 0
        self.number = number_of(word)
        self.branches = kind == IF_SAME or kind == IF_OTHER
        self.following = (place + 1) & ALL_BITS
        self.aim = (place + self.number) & ALL_BITS
        self.guess_at = place & 15

    def needs(self, target):
        """Whether it reads what another order writes to the target (0: that one writes nothing)."""
        return target != 0 and (target == self.first or target == self.second)


def total(order, x, y):
    return (x + y) & ALL_BITS


def difference(order, x, y):
    return (x - y) & ALL_BITS


def bits_of_both(order, x, y):
    return x & y


def bits_of_any(order, x, y):
    return x | y


def bits_of_one(order, x, y):
    return x ^ y


def is_less(order, x, y):
    return 1 if with_sign(x) < with_sign(y) else 0


def offset(order, x, y):
    return (x + order.number) & ALL_BITS


def goes_if_same(order, x, y):
    return 1 if x == y else 0


def goes_if_other(order, x, y):
    return 1 if x != y else 0


def way_back(order, x, y):
    return order.following


def no_result(order, x, y):
    return 0


# One for each kind. Of 7 and 8 it is the address that they need in memory,
# of 9 and 10 whether they go.
RESULTS = (
    total, difference, bits_of_both, bits_of_any, bits_of_one, is_less, offset,
    offset, offset, goes_if_same, goes_if_other, way_back, no_result,
)


def result_of(order, x, y):
    """What the order reckons from the values x and y of the registers that it reads."""
    return RESULTS[order.kind](order, x, y)
