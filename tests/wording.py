"""Requests written as octets, and answers read from them."""

from fractions import Fraction
from math import gcd

from askfirst.session import answers


def integer(number):
    return list(number.to_bytes(8, "little", signed=True))


def length(number):
    return list(number.to_bytes(2, "little"))


def octets(values):
    return length(len(values)) + list(values)


def task(unit, weights, rewards):
    rows = [length(len(row)) + sum([integer(reward) for reward in row], []) for row in rewards]
    return [unit] + octets(weights) + length(len(rows)) + sum(rows, [])


def plan(proposals, ending=None):
    return octets(proposals) + ([0] if ending is None else [1, ending])


def sure(a_task, a_plan, error, cost):
    return [1] + task(*a_task) + plan(*a_plan) + [error, cost]


def best(a_task, error, cost):
    return [2] + task(*a_task) + [error, cost]


def worth(a_task, action, cost):
    return [3] + task(*a_task) + [action, cost]


def up_to(a_task, a_plan, cost, level):
    return [4] + task(*a_task) + plan(*a_plan) + [cost] + integer(level)


def begin(a_task):
    return [5] + task(*a_task)


def propose(action, yes):
    return [6, action, int(yes)]


def advice(error, cost):
    return [7, error, cost]


UNDO = [8]
ANSWERS = [9]
TASTES = [10]


def calls(requests):
    listed = []
    for request in requests:
        listed += [0, len(request)] + request
    return listed


def ask(*requests):
    """The answers to the requests of one session, each as a list of octets."""
    given = answers(calls(requests))
    parted = []
    place = 0
    while place < len(given):
        parted.append(given[place + 1:place + 1 + given[place]])
        place += 1 + given[place]
    assert place == len(given) and len(parted) == len(requests), "the answers do not fit the calls"
    return parted


def ask_last(*requests):
    return ask(*requests)[-1]


class Taken:
    """Takes an answer's parts one behind another."""

    def __init__(self, answer):
        assert answer[0] == 0, "an error was answered: " + str(answer)
        self.left = list(answer[1:])

    def octet(self):
        return self.left.pop(0)

    def integer(self):
        eight, self.left = self.left[:8], self.left[8:]
        return int.from_bytes(bytes(eight), "little", signed=True)

    def fraction(self):
        numerator = self.integer()
        denominator = self.integer()
        assert denominator > 0 and gcd(numerator, denominator) == 1, "not in lowest terms"
        return Fraction(numerator, denominator)

    def listed(self, take):
        count = self.octet() + 256 * self.octet()
        return [take() for _ in range(count)]

    def plan(self):
        proposals = self.listed(self.octet)
        return (proposals, self.octet() if self.flag() else None)

    def flag(self):
        value = self.octet()
        assert value in (0, 1), "no flag"
        return value == 1

    def whole(self, value):
        assert self.left == [], "further octets"
        return value


def sure_result(answer):
    taken = Taken(answer)
    return taken.whole((taken.fraction(), taken.listed(lambda: taken.listed(taken.fraction))))


def best_result(answer):
    taken = Taken(answer)
    return taken.whole((taken.plan(), taken.fraction()))


def worth_result(answer):
    taken = Taken(answer)
    good = taken.fraction()
    bad = taken.fraction()
    return taken.whole((good, bad, taken.fraction() if taken.flag() else None))


def up_to_result(answer):
    taken = Taken(answer)
    return taken.whole(taken.octet() if taken.flag() else None)


def told_sure(a_task, a_plan, error, cost):
    """What the plan is told to be sure of."""
    return sure_result(ask_last(sure(a_task, a_plan, error, cost)))[0]
