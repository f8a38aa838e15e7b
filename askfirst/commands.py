"""The commands: each reads its arguments, checks them, and gives its result in octets."""

from askfirst.checks import check_action, check_cost, check_error, check_level, check_plan, check_task
from askfirst.plans import best_plan, can_go_right, can_go_wrong
from askfirst.plans import greatest_asking_error, greatest_percents, sure_of, worst_answers
from askfirst.reading import Reader, read_plan, read_task
from askfirst.refusals import NoTalk, Refusal, Unreadable
from askfirst.talks import Talk
from askfirst.writing import fraction_list_octets, fraction_octets, length_octets, octet_list_octets, plan_octets


class Desk:
    """What lasts from one request to the next: the talk, or None."""

    def __init__(self):
        self.talk = None

    def living_talk(self):
        """The talk that the commands of the talk but the first one need."""
        if self.talk is None:
            raise NoTalk()
        return self.talk


def answer_sure(desk, reader):
    """1 sure: what a plan is sure of, and the worst answers."""
    task = read_task(reader)
    plan = read_plan(reader)
    error = reader.octet()
    cost = reader.octet()
    reader.finish()
    check_task(task)
    check_plan(task, plan)
    check_error(error)
    check_cost(cost)
    octets = fraction_octets(sure_of(task, plan, error, cost)) + length_octets(len(task.rewards))
    for chances in worst_answers(task, plan, error, cost):
        octets.extend(fraction_list_octets(chances))
    return octets


def best_plan_octets(task, begun, error, cost):
    """The best plan of those that begin with some proposals, and what it is sure of."""
    best = best_plan(task, begun, error, cost)
    return plan_octets(best[0]) + fraction_octets(best[1])


def answer_best(desk, reader):
    """2 best: the best plan of all."""
    task = read_task(reader)
    error = reader.octet()
    cost = reader.octet()
    reader.finish()
    check_task(task)
    check_error(error)
    check_cost(cost)
    return best_plan_octets(task, [], error, cost)


def answer_worth(desk, reader):
    """3 worth: what can go right and wrong, and up to which error asking is no worse."""
    task = read_task(reader)
    action = reader.octet()
    cost = reader.octet()
    reader.finish()
    check_task(task)
    check_action(task, action)
    check_cost(cost)
    octets = fraction_octets((can_go_right(task, action), task.unit))
    octets.extend(fraction_octets((can_go_wrong(task, action), task.unit)))
    error = greatest_asking_error(task, action, cost)
    if error is None:
        return octets + [0]
    return octets + [1] + fraction_octets(error)


def answer_up_to(desk, reader):
    """4 up to: up to which percents a plan is sure of a level."""
    task = read_task(reader)
    plan = read_plan(reader)
    cost = reader.octet()
    level = reader.integer()
    reader.finish()
    check_task(task)
    check_plan(task, plan)
    check_cost(cost)
    check_level(level)
    error = greatest_percents(task, plan, cost, level)
    if error is None:
        return [0]
    return [1, error]


def answer_begin(desk, reader):
    """5 open: a talk begins."""
    task = read_task(reader)
    reader.finish()
    check_task(task)
    desk.talk = Talk(task)
    return []


def answer_propose(desk, reader):
    """6 propose: an action is proposed and answered."""
    action = reader.octet()
    yes = reader.flag()
    reader.finish()
    talk = desk.living_talk()
    check_action(talk.task, action)
    talk.propose(action, yes)
    return [len(talk.possible_tastes())]


def answer_advice(desk, reader):
    """7 advice: the best plan of those that begin with the proposals so far."""
    error = reader.octet()
    cost = reader.octet()
    reader.finish()
    talk = desk.living_talk()
    check_error(error)
    check_cost(cost)
    talk.check_undecided()
    return best_plan_octets(talk.task, talk.proposed(), error, cost)


def answer_undo(desk, reader):
    """8 undo: the last proposal is undone."""
    reader.finish()
    desk.living_talk().undo()
    return []


def answer_answers(desk, reader):
    """9 answers: each proposal with its answer."""
    reader.finish()
    told = desk.living_talk().told
    octets = length_octets(len(told))
    for action, yes in told:
        octets.extend([action, 1 if yes else 0])
    return octets


def answer_tastes(desk, reader):
    """10 tastes: the tastes that can be."""
    reader.finish()
    return octet_list_octets(desk.living_talk().possible_tastes())


COMMANDS = {
    1: answer_sure,
    2: answer_best,
    3: answer_worth,
    4: answer_up_to,
    5: answer_begin,
    6: answer_propose,
    7: answer_advice,
    8: answer_undo,
    9: answer_answers,
    10: answer_tastes,
}


def answer_request(desk, octets):
    """The answer to one request, in octets."""
    reader = Reader(octets)
    try:
        command = COMMANDS.get(reader.octet())
        if command is None:
            raise Unreadable()
        return [0] + command(desk, reader)
    except Refusal as refusal:
        return [1, refusal.number]
