"""A whole session by the model's definitions, to be held against the program's answers."""

from fractions import Fraction

import model
from wording import integer, octets


class Refused(Exception):
    pass


def refuse_if(number, wrong):
    if wrong:
        raise Refused(number)


class Parts:
    """What a request holds, part by part."""

    def __init__(self, request):
        self.left = list(request)

    def take(self, count):
        refuse_if(1, len(self.left) < count)
        taken, self.left = self.left[:count], self.left[count:]
        return taken

    def octet(self):
        return self.take(1)[0]

    def flag(self):
        value = self.octet()
        refuse_if(1, value not in (0, 1))
        return value == 1

    def integer(self):
        value = int.from_bytes(bytes(self.take(8)), "little", signed=True)
        refuse_if(1, not -(2 ** 53) < value < 2 ** 53)
        return value

    def listed(self, part):
        count = int.from_bytes(bytes(self.take(2)), "little")
        return [part() for _ in range(count)]

    def task(self):
        return (self.octet(), self.listed(self.octet), self.listed(lambda: self.listed(self.integer)))

    def plan(self):
        return (self.listed(self.octet), self.octet() if self.flag() else None)


def fraction(value):
    value = Fraction(value)
    return integer(value.numerator) + integer(value.denominator)


def plan_and_fraction(found):
    (proposals, ending), value = found
    return octets(proposals) + ([0] if ending is None else [1, ending]) + fraction(value)


class ModelSession:
    FORMS = {
        1: ("task", "plan", "octet", "octet"), 2: ("task", "octet", "octet"), 3: ("task", "octet", "octet"),
        4: ("task", "plan", "octet", "integer"), 5: ("task",), 6: ("octet", "flag"), 7: ("octet", "octet"),
        8: (), 9: (), 10: (),
    }
    NAMES = {1: "sure", 2: "best", 3: "worth", 4: "up_to", 5: "begin", 6: "propose", 7: "advice", 8: "undo",
             9: "answers", 10: "tastes"}

    def __init__(self):
        self.task = None
        self.told = []

    def answer(self, request):
        try:
            parts = Parts(request)
            number = parts.octet()
            refuse_if(1, number not in self.FORMS)
            arguments = [getattr(parts, form)() for form in self.FORMS[number]]
            refuse_if(1, parts.left != [])
            refuse_if(2, number > 5 and self.task is None)
            return [0] + getattr(self, self.NAMES[number])(*arguments)
        except Refused as refused:
            return [1, refused.args[0]]

    def sure(self, a_task, a_plan, error, cost):
        refuse_if(3, not model.is_task(a_task))
        refuse_if(4, not model.is_plan(a_task, a_plan))
        refuse_if(6, error > 100)
        refuse_if(7, cost > 99)
        chances = [model.worst_chances(row, a_plan, error, cost) for row in a_task[2]]
        told = fraction(model.least(a_task, a_plan, error, cost)) + [len(chances), 0]
        return told + sum([[len(row), 0] + sum(map(fraction, row), []) for row in chances], [])

    def best(self, a_task, error, cost):
        refuse_if(3, not model.is_task(a_task))
        refuse_if(6, error > 100)
        refuse_if(7, cost > 99)
        return plan_and_fraction(model.best_of(a_task, error, cost))

    def worth(self, a_task, action, cost):
        refuse_if(3, not model.is_task(a_task))
        refuse_if(5, action >= len(a_task[2][0]))
        refuse_if(7, cost > 99)
        good, bad = model.good_and_bad(a_task, action)
        told = fraction(good) + fraction(bad)
        if good + bad == 0 or bad < cost:
            return told + [0]
        return told + [1] + fraction((bad - cost) / (good + bad))

    def up_to(self, a_task, a_plan, cost, level):
        refuse_if(3, not model.is_task(a_task))
        refuse_if(4, not model.is_plan(a_task, a_plan))
        refuse_if(7, cost > 99)
        refuse_if(8, not -99 <= level <= 99)
        sure_with = [error for error in range(101) if model.least(a_task, a_plan, error, cost) >= level]
        return [1, max(sure_with)] if sure_with else [0]

    def begin(self, a_task):
        refuse_if(3, not model.is_task(a_task))
        self.task, self.told = a_task, []
        return []

    def propose(self, action, yes):
        refuse_if(5, action >= len(self.task[2][0]))
        refuse_if(9, any(answer for _, answer in self.told))
        refuse_if(10, any(before == action for before, _ in self.told))
        self.told = self.told + [(action, yes)]
        return [len(self.possible())]

    def advice(self, error, cost):
        refuse_if(6, error > 100)
        refuse_if(7, cost > 99)
        refuse_if(9, any(answer for _, answer in self.told))
        return plan_and_fraction(model.best_of(self.task, error, cost, tuple(action for action, _ in self.told)))

    def undo(self):
        refuse_if(11, self.told == [])
        self.told = self.told[:-1]
        return []

    def answers(self):
        return [len(self.told), 0] + sum([[action, int(yes)] for action, yes in self.told], [])

    def possible(self):
        return [
            taste for taste, row in enumerate(self.task[2])
            if self.task[1][taste] > 0 and all(yes == (row[action] >= 0) for action, yes in self.told)
        ]

    def tastes(self):
        return octets(self.possible())
