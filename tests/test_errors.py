"""Points 10 and 12: arguments, errors in their order, and that errors change nothing."""

import unittest
from random import Random

import model
from wording import (
    ANSWERS, TASTES, UNDO, advice, ask, ask_last, begin, best, integer, length, octets, propose, sure, task, up_to,
    worth,
)

EXAMPLE = (4, [2, 1, 1], [[4, 1], [-6, 1], [2, -3]])
GOOD_PLAN = ([0, 1], 0)
WRONG_TASK = (5, [2, 1, 1], [[4, 1], [-6, 1], [2, -3]])
WRONG_PLAN = ([0, 0], None)
GREATEST = 9007199254740991

# At least one request for each command; answer_in_talk answers all of them by no error.
GOOD_REQUESTS = [
    sure(EXAMPLE, GOOD_PLAN, 100, 99), sure(EXAMPLE, ([], None), 0, 0), best(EXAMPLE, 100, 99), worth(EXAMPLE, 1, 99),
    up_to(EXAMPLE, GOOD_PLAN, 99, -99), up_to(EXAMPLE, ([1], None), 0, 99), begin(EXAMPLE), propose(1, True),
    propose(0, False), advice(100, 99), UNDO, ANSWERS, TASTES,
]
TALK = [begin(EXAMPLE), propose(0, False)]
SHOWN = [ANSWERS, TASTES, advice(25, 0)]


def answer_in_talk(request):
    """The answer behind a proposal that was refused, of another action than the request's."""
    return ask(begin(EXAMPLE), propose(1 if request[:2] == [6, 0] else 0, False), request)[-1]


class Unreadable(unittest.TestCase):
    """Error 1, ahead of all others."""

    def assert_unreadable(self, request):
        self.assertEqual(ask_last(request), [1, 1], request)
        given = ask(*TALK, *SHOWN, request, *SHOWN)
        self.assertEqual(given[5], [1, 1], request)
        self.assertEqual(given[2:5], given[6:], request)

    def test_good_requests_are_readable(self):
        for request in GOOD_REQUESTS:
            self.assertEqual(answer_in_talk(request)[0], 0, request)

    def test_no_octets(self):
        self.assert_unreadable([])

    def test_unknown_commands(self):
        for number in [0] + list(range(11, 256)):
            self.assert_unreadable([number])
        self.assert_unreadable([0] + TASTES)
        self.assert_unreadable([11] + best(EXAMPLE, 0, 0)[1:])

    def test_requests_that_end_too_early_at_each_place(self):
        for request in GOOD_REQUESTS:
            for end in range(len(request)):
                self.assertEqual(ask_last(*TALK, request[:end]), [1, 1], request[:end])
            self.assert_unreadable(request[:-1] if len(request) > 1 else [])

    def test_requests_with_further_octets_behind(self):
        for request in GOOD_REQUESTS:
            for further in ([0], [1], [255], [0] * 8, request):
                self.assert_unreadable(request + further)

    def test_flags_that_are_neither_0_nor_1(self):
        for flag in (2, 3, 128, 255):
            self.assert_unreadable([6, 1, flag])

    def test_octets_ahead_of_an_ending_that_are_neither_0_nor_1(self):
        for ahead in (2, 3, 255):
            for behind in ([], [0]):
                self.assert_unreadable([1] + task(*EXAMPLE) + octets([0]) + [ahead] + behind + [0, 0])
                self.assert_unreadable([4] + task(*EXAMPLE) + octets([0]) + [ahead] + behind + [0] + integer(0))

    def test_integers_out_of_their_bounds(self):
        for number in (GREATEST + 1, -GREATEST - 1, 2 ** 62, 2 ** 63 - 1, -2 ** 63):
            a_task = (4, [2, 1, 1], [[4, 1], [-6, 1], [2, number]])
            self.assert_unreadable(best(a_task, 0, 0))
            self.assert_unreadable(begin(a_task))
            self.assert_unreadable(up_to(EXAMPLE, GOOD_PLAN, 0, number))

    def test_integers_within_their_bounds_are_read(self):
        for number in (GREATEST, -GREATEST, 2 ** 32, -2 ** 32, 256, -256, 100, -100):
            a_task = (4, [2, 1, 1], [[4, 1], [-6, 1], [2, number]])
            self.assertEqual(ask_last(best(a_task, 0, 0)), [1, 3])
            self.assertEqual(ask_last(up_to(EXAMPLE, GOOD_PLAN, 0, number)), [1, 8])

    def test_lists_that_tell_more_than_there_is(self):
        self.assert_unreadable([2, 4, 255, 255, 1, 1, 1])
        self.assert_unreadable([5, 4] + octets([4]) + length(2) + length(1) + integer(3))
        self.assert_unreadable([1] + task(*EXAMPLE) + [0, 1] + [0] * 255 + [0, 0, 0])

    def test_unreadable_ahead_of_no_talk_and_of_wrong_arguments(self):
        for request in ([6], [6, 9], [6, 9, 2], [7], [7, 101], [7, 101, 100, 0], [8, 0], [9, 0], [10, 0]):
            self.assert_unreadable(request)
        self.assert_unreadable(sure(WRONG_TASK, WRONG_PLAN, 101, 100) + [0])
        self.assert_unreadable(up_to(WRONG_TASK, WRONG_PLAN, 100, GREATEST + 1))
        self.assert_unreadable([6, 7, 2])


class NoTalk(unittest.TestCase):
    """Error 2, ahead of all but error 1, for the commands of the talk but open."""

    def test_no_talk_at_the_start(self):
        for request in (propose(0, True), propose(255, False), advice(0, 0), advice(255, 255), UNDO, ANSWERS, TASTES):
            self.assertEqual(ask_last(request), [1, 2])

    def test_no_talk_behind_other_commands_and_behind_a_wrong_open(self):
        behind = [best(EXAMPLE, 0, 0), begin(WRONG_TASK), []]
        for request in (propose(0, True), advice(0, 0), UNDO, ANSWERS, TASTES):
            self.assertEqual(ask_last(*behind, request), [1, 2])

    def test_other_commands_need_no_talk(self):
        for request in GOOD_REQUESTS[:7]:
            self.assertEqual(ask_last(request)[0], 0)


class Tasks(unittest.TestCase):
    """Point 10 and error 3, in both directions."""

    def assert_task(self, a_task, accepted):
        self.assertEqual(model.is_task(a_task), accepted)
        expected = 0 if accepted else 3
        for request in (
            sure(a_task, ([], None), 0, 0), best(a_task, 0, 0), worth(a_task, 0, 0), up_to(a_task, ([], None), 0, 0),
            begin(a_task),
        ):
            answer = ask_last(request)
            self.assertEqual(answer[1] if answer[0] == 1 else 0, expected, a_task)

    def test_units(self):
        for unit in (0, 1, 2, 98, 99, 100, 255):
            self.assert_task((unit, [unit], [[1]]), 1 <= unit <= 99)

    def test_weights_are_together_the_unit(self):
        for weights in ([2, 1, 1], [4, 0, 0], [0, 0, 4], [2, 1, 2], [2, 1, 0], [0, 0, 0], [255, 3, 2]):
            self.assert_task((4, weights, [[1], [1], [1]]), sum(weights) == 4)
        self.assert_task((4, [255, 5], [[1], [1]]), False)

    def test_numbers_of_tastes(self):
        for count in range(7):
            weights = ([5] + [0] * count)[:count]
            self.assert_task((5, weights, [[1, 2]] * count), 1 <= count <= 4)
        self.assert_task((0, [], []), False)

    def test_as_many_rewards_as_weights(self):
        for count in range(5):
            self.assert_task((5, [2, 3], [[1, 2]] * count), count == 2)

    def test_numbers_of_actions(self):
        for count in range(7):
            self.assert_task((5, [2, 3], [[1] * count] * 2), 1 <= count <= 4)

    def test_as_many_actions_for_each_taste(self):
        self.assert_task((5, [2, 3], [[1, 2], [1]]), False)
        self.assert_task((5, [2, 3], [[1], [1, 2]]), False)
        self.assert_task((5, [2, 3], [[1], []]), False)
        self.assert_task((5, [2, 3], [[], [1]]), False)
        self.assert_task((5, [2, 3, 0], [[1], [1], [1, 1, 1, 1, 1]]), False)

    def test_rewards(self):
        for reward in (-100, -99, 0, 99, 100, 1000, -1000, GREATEST, -GREATEST):
            self.assert_task((5, [2, 3], [[1, reward], [1, 1]]), -99 <= reward <= 99)
            self.assert_task((5, [5, 0], [[1, 1], [reward, 1]]), -99 <= reward <= 99)

    def test_any_tasks(self):
        chosen = Random(41)
        seen = set()
        for _ in range(400):
            weights = [chosen.randint(0, 3) for _ in range(chosen.randint(0, 5))]
            unit = chosen.choice([sum(weights)] * 4 + [sum(weights) + 1])
            count = chosen.randint(0, 5)
            counts = [chosen.choice([count] * 12 + [count + 1]) for _ in weights]
            a_task = (unit, weights, [[chosen.choice([1, 99, -99, 5, -5, 0]) for _ in range(each)] for each in counts])
            seen.add(model.is_task(a_task))
            self.assert_task(a_task, model.is_task(a_task))
        self.assertEqual(seen, {True, False})


class Plans(unittest.TestCase):
    """Point 10 and error 4, in both directions."""

    def assert_plan(self, a_task, a_plan, accepted):
        self.assertEqual(model.is_plan(a_task, a_plan), accepted)
        for request in (sure(a_task, a_plan, 0, 0), up_to(a_task, a_plan, 0, 0)):
            answer = ask_last(request)
            self.assertEqual(answer[0] == 0, accepted, a_plan)
            self.assertTrue(accepted or answer == [1, 4])

    def test_some_plans(self):
        for proposals, ending, accepted in (
            ([], None, True), ([], 1, True), ([0, 1], None, True), ([1, 0], 1, True), ([1], 1, True),
            ([2], None, False), ([0, 0], None, False), ([0, 1, 0], None, False), ([], 2, False), ([0], 2, False),
            ([255], 0, False), ([0, 1], 255, False), ([0, 1, 2], None, False), ([0, 1] * 300, None, False),
        ):
            self.assert_plan(EXAMPLE, (proposals, ending), accepted)

    def test_any_plans(self):
        chosen = Random(42)
        for a_task in model.some_tasks(43, 30):
            actions = len(a_task[2][0])
            for _ in range(10):
                a_plan = (
                    [chosen.randint(0, actions) for _ in range(chosen.randint(0, actions + 1))],
                    chosen.choice([None] + list(range(actions + 1))),
                )
                self.assert_plan(a_task, a_plan, model.is_plan(a_task, a_plan))

    def test_all_proposals_and_endings(self):
        a_task = (1, [1], [[1, -1, 2, -2]])
        for a_plan in model.all_plans(4):
            self.assert_plan(a_task, a_plan, True)


class Numbers(unittest.TestCase):
    """Errors 5 to 8."""

    def assert_edge(self, make, accepted, refused, error):
        for value in accepted:
            self.assertEqual(ask(begin(EXAMPLE), make(value))[1][0], 0, value)
        for value in refused:
            self.assertEqual(ask(begin(EXAMPLE), make(value))[1], [1, error], value)

    def test_actions(self):
        self.assert_edge(lambda action: worth(EXAMPLE, action, 0), [0, 1], [2, 3, 255], 5)
        self.assert_edge(lambda action: propose(action, True), [0, 1], [2, 3, 255], 5)

    def test_errors(self):
        self.assert_edge(lambda error: sure(EXAMPLE, GOOD_PLAN, error, 0), [0, 1, 99, 100], [101, 255], 6)
        self.assert_edge(lambda error: best(EXAMPLE, error, 0), [0, 1, 99, 100], [101, 255], 6)
        self.assert_edge(lambda error: advice(error, 0), [0, 1, 99, 100], [101, 255], 6)

    def test_costs(self):
        self.assert_edge(lambda cost: sure(EXAMPLE, GOOD_PLAN, 0, cost), [0, 1, 99], [100, 255], 7)
        self.assert_edge(lambda cost: best(EXAMPLE, 0, cost), [0, 1, 99], [100, 255], 7)
        self.assert_edge(lambda cost: worth(EXAMPLE, 0, cost), [0, 1, 99], [100, 255], 7)
        self.assert_edge(lambda cost: up_to(EXAMPLE, GOOD_PLAN, cost, 0), [0, 1, 99], [100, 255], 7)
        self.assert_edge(lambda cost: advice(0, cost), [0, 1, 99], [100, 255], 7)

    def test_levels(self):
        levels = [-99, -98, 0, 98, 99]
        beyond = [-100, 100, 355, -157, GREATEST, -GREATEST]
        self.assert_edge(lambda level: up_to(EXAMPLE, GOOD_PLAN, 0, level), levels, beyond, 8)


class Order(unittest.TestCase):
    """The first error that applies is told, ahead of the later ones."""

    def test_sure(self):
        self.assertEqual(ask_last(sure(WRONG_TASK, WRONG_PLAN, 101, 100)), [1, 3])
        self.assertEqual(ask_last(sure(EXAMPLE, WRONG_PLAN, 101, 100)), [1, 4])
        self.assertEqual(ask_last(sure(EXAMPLE, GOOD_PLAN, 101, 100)), [1, 6])
        self.assertEqual(ask_last(sure(EXAMPLE, GOOD_PLAN, 100, 100)), [1, 7])

    def test_best(self):
        self.assertEqual(ask_last(best(WRONG_TASK, 101, 100)), [1, 3])
        self.assertEqual(ask_last(best(EXAMPLE, 101, 100)), [1, 6])
        self.assertEqual(ask_last(best(EXAMPLE, 100, 100)), [1, 7])

    def test_worth(self):
        self.assertEqual(ask_last(worth(WRONG_TASK, 2, 100)), [1, 3])
        self.assertEqual(ask_last(worth(EXAMPLE, 2, 100)), [1, 5])
        self.assertEqual(ask_last(worth(EXAMPLE, 1, 100)), [1, 7])

    def test_up_to(self):
        self.assertEqual(ask_last(up_to(WRONG_TASK, WRONG_PLAN, 100, 100)), [1, 3])
        self.assertEqual(ask_last(up_to(EXAMPLE, WRONG_PLAN, 100, 100)), [1, 4])
        self.assertEqual(ask_last(up_to(EXAMPLE, GOOD_PLAN, 100, 100)), [1, 7])
        self.assertEqual(ask_last(up_to(EXAMPLE, GOOD_PLAN, 99, 100)), [1, 8])

    def test_propose(self):
        decided = [begin(EXAMPLE), propose(0, True)]
        self.assertEqual(ask_last(*decided, propose(2, True)), [1, 5])
        self.assertEqual(ask_last(*decided, propose(0, True)), [1, 9])
        self.assertEqual(ask_last(*decided, propose(1, False)), [1, 9])
        self.assertEqual(ask_last(*TALK, propose(2, True)), [1, 5])
        self.assertEqual(ask_last(*TALK, propose(0, True)), [1, 10])
        self.assertEqual(ask_last(*TALK, propose(0, False)), [1, 10])

    def test_advice(self):
        decided = [begin(EXAMPLE), propose(0, True)]
        self.assertEqual(ask_last(*decided, advice(101, 100)), [1, 6])
        self.assertEqual(ask_last(*decided, advice(100, 100)), [1, 7])
        self.assertEqual(ask_last(*decided, advice(100, 99)), [1, 9])

    def test_undo(self):
        self.assertEqual(ask_last(begin(EXAMPLE), UNDO), [1, 11])
        self.assertEqual(ask_last(*TALK, UNDO, UNDO), [1, 11])


class NothingChanges(unittest.TestCase):
    """A command that is answered by an error changes nothing."""

    def test_in_a_talk(self):
        for request, error in (
            ([], 1), ([6, 1, 2], 1), ([6, 1, 0, 0], 1), ([8, 8], 1), (begin(EXAMPLE) + [0], 1), (begin(WRONG_TASK), 3),
            (sure(EXAMPLE, WRONG_PLAN, 0, 0), 4), (propose(2, True), 5), (propose(2, False), 5),
            (worth(EXAMPLE, 2, 0), 5), (advice(101, 0), 6), (advice(0, 100), 7), (up_to(EXAMPLE, GOOD_PLAN, 0, 100), 8),
            (propose(0, True), 10), (propose(0, False), 10),
        ):
            given = ask(*TALK, *SHOWN, request, *SHOWN, propose(1, False), UNDO, UNDO, UNDO)
            self.assertEqual(given[5], [1, error], request)
            self.assertEqual(given[2:5], given[6:9], request)
            self.assertEqual(given[9:], [[0, 0], [0], [0], [1, 11]], request)

    def test_behind_a_yes(self):
        for request, error in ((propose(1, True), 9), (propose(0, False), 9), (advice(0, 0), 9), (propose(2, True), 5)):
            given = ask(begin(EXAMPLE), propose(0, True), ANSWERS, TASTES, request, ANSWERS, TASTES, UNDO, UNDO)
            self.assertEqual(given[4], [1, error])
            self.assertEqual(given[2:4], given[5:7])
            self.assertEqual(given[7:], [[0], [1, 11]])

    def test_with_nothing_to_undo(self):
        given = ask(begin(EXAMPLE), *SHOWN, UNDO, *SHOWN)
        self.assertEqual(given[4], [1, 11])
        self.assertEqual(given[1:4], given[5:])


if __name__ == "__main__":
    unittest.main()
