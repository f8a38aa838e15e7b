"""Points 11 and 12 over whole sessions, and what the interface says of lists of calls."""

import unittest
from random import Random

import model
from askfirst.session import answers
from model_session import ModelSession
from wording import (
    ANSWERS, TASTES, UNDO, advice, ask, begin, best, calls, length, propose, sure, up_to, worth,
)

EXAMPLE = (4, [2, 1, 1], [[4, 1], [-6, 1], [2, -3]])


def number_beyond(chosen, greatest):
    """Mostly from 0 to the greatest one, now and then beyond."""
    return chosen.choice([0, greatest, chosen.randint(0, greatest)] * 3 + [greatest + 1])


def some_task(chosen):
    unit, weights, rewards = model.some_tasks(chosen.random(), 1, actions=3)[0]
    unit = chosen.choice([unit] * 12 + [unit + 1])
    if chosen.random() < 0.05:
        rewards[0][0] = chosen.choice([-100, 100])
    return (unit, weights, rewards)


def some_plan(chosen, a_task):
    actions = len(a_task[2][0])
    proposals = chosen.sample(range(actions + 1), chosen.randint(0, actions))
    if chosen.random() < 0.8:
        proposals = [action for action in proposals if action < actions]
    return (proposals, chosen.choice([None, number_beyond(chosen, actions - 1)]))


def some_request(chosen):
    kind = chosen.randint(1, 20)
    a_task = some_task(chosen)
    action = number_beyond(chosen, len(a_task[2][0]) - 1)
    error, cost = number_beyond(chosen, 100), number_beyond(chosen, chosen.choice([1, 3, 99]))
    made = {
        1: sure(a_task, some_plan(chosen, a_task), error, cost),
        2: best(a_task, error, cost),
        3: worth(a_task, action, cost),
        4: up_to(a_task, some_plan(chosen, a_task), cost, chosen.choice([-100, -99, -3, 0, 1, 2, 5, 99, 100])),
        5: begin(a_task),
        6: advice(error, cost),
        7: UNDO, 8: UNDO, 9: ANSWERS, 10: ANSWERS, 11: TASTES, 12: TASTES,
    }
    return list(made.get(kind, propose(chosen.randint(0, 3), chosen.random() < 0.25)))


def damaged(chosen, request):
    """The request with some octet other than it was, too many, or missing."""
    place = chosen.randrange(len(request))
    return chosen.choice([
        request[:place], request[:place] + request[place + 1:], request + [chosen.randint(0, 255)],
        request[:place] + [chosen.choice([0, 1, 2, 255, chosen.randint(0, 255)])] + request[place + 1:],
    ])


class AgainstTheModel(unittest.TestCase):
    def test_any_sessions(self):
        chosen = Random(51)
        seen = set()
        for _ in range(60):
            requests = [begin(some_task(chosen))] if chosen.random() < 0.8 else []
            for _ in range(40):
                request = some_request(chosen)
                requests.append(damaged(chosen, request) if chosen.random() < 0.1 else request)
            session = ModelSession()
            for request, answer in zip(requests, ask(*requests)):
                expected = session.answer(request)
                self.assertEqual(answer, expected, request)
                seen.add((request[0] if request else None, tuple(expected[:2]) if expected[0] == 1 else 0))
        self.assertTrue({(number, 0) for number in range(1, 11)} <= seen)
        self.assertEqual({told[1] for _, told in seen if told}, set(range(1, 12)))

    def test_any_octets(self):
        chosen = Random(52)
        requests = [[chosen.choice([0, 1, 2, 6, 7, 8, 9, 10, 255]) for _ in range(chosen.randint(0, 9))] for _ in range(999)]
        session = ModelSession()
        begun = begin(EXAMPLE)
        self.assertEqual(ask(begun, *requests), [session.answer(request) for request in [begun] + requests])


class ListsOfCalls(unittest.TestCase):
    def test_nothing_is_left_of_another_list(self):
        first = calls([begin(EXAMPLE), propose(0, True), ANSWERS])
        told = answers(first)
        self.assertEqual(answers(calls([ANSWERS, TASTES, UNDO])), [2, 1, 2, 2, 1, 2, 2, 1, 2])
        self.assertEqual(answers(first), told)
        self.assertEqual(answers(calls([begin(EXAMPLE), ANSWERS])), [1, 0, 3, 0, 0, 0])

    def test_what_is_given_back_is_not_kept(self):
        listed = calls([begin(EXAMPLE), propose(0, False), ANSWERS, advice(25, 0)])
        told = answers(listed)
        before = list(told)
        told.reverse()
        self.assertEqual(answers(listed), before)

    def test_the_list_handed_in_stays_as_it_was(self):
        requests = [begin(EXAMPLE), propose(0, False), advice(25, 0), [], [6, 0, 2], UNDO, sure(EXAMPLE, ([1], 0), 1, 1)]
        listed = calls(requests)
        before = list(listed)
        answers(listed)
        self.assertEqual(listed, before)

    def test_several_calls_one_behind_another(self):
        one_by_one = [sure(EXAMPLE, ([0], None), 25, 0), best(EXAMPLE, 25, 0), worth(EXAMPLE, 0, 0), [], [77]]
        self.assertEqual(ask(*one_by_one), [ask(request)[0] for request in one_by_one])

    def test_whole_numbers_are_given_back(self):
        told = answers(calls([begin(EXAMPLE), propose(0, False), ANSWERS, TASTES, advice(25, 0), propose(1, True), ANSWERS]))
        self.assertTrue(type(told) is list and all(type(number) is int for number in told))

    def test_one_call_without_octets(self):
        self.assertEqual(answers([0, 0]), [2, 1, 1])

    def test_a_thousand_calls(self):
        requests = [begin((99, [25, 25, 25, 24], [[4, -5, 99, -3], [-6, 1, -9, 4], [2, -3, 7, -50], [1, 2, -3, 4]]))]
        requests += [advice(37, 3)] * 9 + [propose(0, False), UNDO] * 495
        self.assertEqual(len(requests), 1000)
        given = ask(*requests)
        self.assertEqual(given[10:], [[0, 1], [0]] * 495)
        self.assertEqual(len(set(map(tuple, given[1:10]))), 1)

    def test_requests_of_60998_octets(self):
        many = 60998
        further = many - len(sure(EXAMPLE, ([], None), 0, 0))
        rows = (many - 6) // 2
        for request, error in (
            ([8] * many, 1),
            (sure(EXAMPLE, ([], None), 0, 0) + [0] * further, 1),
            ([5, 1, 0, 0] + length(rows) + length(0) * rows, 3),
            (sure(EXAMPLE, ([0, 1] * (further // 2), None), 0, 0), 4),
        ):
            self.assertEqual(len(request), many)
            self.assertEqual(ask(request), [[1, error]])


if __name__ == "__main__":
    unittest.main()
