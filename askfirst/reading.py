"""How the parts of a request are read from its octets."""

from askfirst.refusals import Unreadable
from askfirst.tasks import Plan, Task

FIRST_NEGATIVE = 9223372036854775808
ALL_INTEGERS = 18446744073709551616
GREATEST_INTEGER = 9007199254740991


class Reader:
    """Reads one request part by part, from its first octet on."""

    def __init__(self, octets):
        self.octets = octets
        self.place = 0

    def octet(self):
        """The octet that is next."""
        if self.place >= len(self.octets):
            raise Unreadable()
        value = self.octets[self.place]
        self.place += 1
        return value

    def flag(self):
        """True for octet 1, False for octet 0."""
        value = self.octet()
        if value > 1:
            raise Unreadable()
        return value == 1

    def integer(self):
        """Eight octets, the least significant first, in two's complement."""
        value = 0
        for index in range(8):
            value += self.octet() << (8 * index)
        if value >= FIRST_NEGATIVE:
            value -= ALL_INTEGERS
        if abs(value) > GREATEST_INTEGER:
            raise Unreadable()
        return value

    def list_length(self):
        """How many parts the list has that comes behind."""
        low = self.octet()
        return low + 256 * self.octet()

    def octet_list(self):
        """A list of octets."""
        return [self.octet() for index in range(self.list_length())]

    def integer_list(self):
        """A list of integers."""
        return [self.integer() for index in range(self.list_length())]

    def finish(self):
        """Refuse a request that has further octets behind."""
        if self.place < len(self.octets):
            raise Unreadable()


def read_task(reader):
    """A task that is not checked yet."""
    unit = reader.octet()
    weights = reader.octet_list()
    rewards = [reader.integer_list() for index in range(reader.list_length())]
    return Task(unit, weights, rewards)


def read_plan(reader):
    """A plan that is not checked yet."""
    proposals = reader.octet_list()
    ending = None
    if reader.flag():
        ending = reader.octet()
    return Plan(proposals, ending)
