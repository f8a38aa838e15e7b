"""Points 7 to 9 and 11: the talk, the tastes that can be, undo."""

import unittest
from random import Random

import model
from wording import (
    ANSWERS, TASTES, UNDO, Taken, advice, ask, ask_last, begin, best, best_result, propose,
)

EXAMPLE = (4, [2, 1, 1], [[4, 1], [-6, 1], [2, -3]])
WIDE = (9, [2, 0, 3, 4], [[4, -1, 0, 9], [4, -1, 0, 9], [-4, -1, 5, -9], [0, 3, -1, 9]])


def tastes_by_definition(a_task, told):
    return [
        taste for taste, weight in enumerate(a_task[1])
        if weight > 0 and all(yes == (a_task[2][taste][action] >= 0) for action, yes in told)
    ]


def told_answers(answer):
    taken = Taken(answer)
    return taken.whole(taken.listed(lambda: (taken.octet(), taken.flag())))


def told_tastes(answer):
    taken = Taken(answer)
    return taken.whole(taken.listed(taken.octet))


class Tastes(unittest.TestCase):
    """Point 7, in both directions."""

    def test_all_rows_of_refusals_and_a_last_answer(self):
        for a_task in [EXAMPLE, WIDE] + model.some_tasks(31, 20):
            chosen = Random(len(a_task[1]))
            for _ in range(8):
                actions = chosen.sample(range(len(a_task[2][0])), chosen.randint(0, len(a_task[2][0])))
                told = [(action, False) for action in actions]
                if told and chosen.random() < 0.5:
                    told[-1] = (told[-1][0], True)
                given = ask(begin(a_task), *[propose(*each) for each in told], TASTES, ANSWERS)
                counts = [len(tastes_by_definition(a_task, told[:place + 1])) for place in range(len(told))]
                self.assertEqual(given[1:-2], [[0, count] for count in counts])
                self.assertEqual(told_tastes(given[-2]), tastes_by_definition(a_task, told))
                self.assertEqual(told_answers(given[-1]), told)

    def test_tastes_without_a_chance_can_not_be(self):
        self.assertEqual(ask_last(begin(WIDE), TASTES), [0, 3, 0, 0, 2, 3])
        self.assertEqual(ask_last(begin((5, [0, 5], [[1], [1]])), TASTES), [0, 1, 0, 1])

    def test_a_reward_of_0_is_good(self):
        self.assertEqual(ask(begin(WIDE), propose(2, True), TASTES)[1:], [[0, 2], [0, 2, 0, 0, 2]])
        self.assertEqual(ask(begin(WIDE), propose(2, False), TASTES)[1:], [[0, 1], [0, 1, 0, 3]])

    def test_no_taste_need_be_left(self):
        given = ask(begin(EXAMPLE), propose(0, False), propose(1, False), TASTES, ANSWERS)
        self.assertEqual(given[1:], [[0, 1], [0, 0], [0, 0, 0], [0, 2, 0, 0, 0, 1, 0]])


class TheTalk(unittest.TestCase):
    """Points 8, 9 and 11."""

    def test_nothing_was_proposed_in_a_new_talk(self):
        self.assertEqual(ask(begin(EXAMPLE), ANSWERS, TASTES), [[0], [0, 0, 0], [0, 3, 0, 0, 1, 2]])

    def test_a_new_talk_takes_the_place_of_the_one_before(self):
        given = ask(begin(EXAMPLE), propose(0, True), begin(WIDE), ANSWERS, propose(3, False), TASTES, UNDO, UNDO)
        self.assertEqual(given[2:], [[0], [0, 0, 0], [0, 1], [0, 1, 0, 2], [0], [1, 11]])

    def test_a_yes_decides_until_it_is_undone(self):
        given = ask(
            begin(EXAMPLE), propose(1, False), propose(0, True), propose(1, False), advice(1, 1), TASTES, ANSWERS,
            UNDO, ANSWERS, advice(0, 0), propose(0, False), ANSWERS,
        )
        self.assertEqual(given[2:9], [
            [0, 1], [1, 9], [1, 9], [0, 1, 0, 2], [0, 2, 0, 1, 0, 0, 1], [0], [0, 1, 0, 1, 0],
        ])
        self.assertEqual(best_result(given[9]), model.best_of(EXAMPLE, 0, 0, (1,)))
        self.assertEqual(given[10:], [[0, 0], [0, 2, 0, 1, 0, 0, 0]])

    def test_advice_keeps_the_order_of_the_proposals(self):
        for begun in ([0, 1], [1, 0]):
            talk = [begin(EXAMPLE)] + [propose(action, False) for action in begun]
            self.assertEqual(best_result(ask_last(*talk, advice(25, 1)))[0][0], begun)

    def test_advice_without_proposals_is_the_best_plan(self):
        self.assertEqual(ask_last(begin(WIDE), advice(13, 1)), ask_last(best(WIDE, 13, 1)))

    def test_other_commands_leave_the_talk_as_it_is(self):
        given = ask(begin(EXAMPLE), propose(1, False), best(WIDE, 0, 0), advice(0, 0), ANSWERS, TASTES, ANSWERS)
        self.assertEqual(given[4:], [[0, 1, 0, 1, 0], [0, 1, 0, 2], [0, 1, 0, 1, 0]])

    def test_undo_step_by_step(self):
        given = ask(
            begin(WIDE), propose(1, False), propose(0, False), UNDO, propose(2, False), ANSWERS, UNDO, UNDO, UNDO,
            ANSWERS, propose(0, False),
        )
        self.assertEqual(given[5:], [[0, 2, 0, 1, 0, 2, 0], [0], [0], [1, 11], [0, 0, 0], [0, 1]])

    def test_undo_passes_over_what_was_answered_by_an_error(self):
        given = ask(begin(WIDE), propose(1, False), propose(1, False), propose(9, True), UNDO, ANSWERS, UNDO)
        self.assertEqual(given[1:], [[0, 2], [1, 10], [1, 5], [0], [0, 0, 0], [1, 11]])

    def test_after_any_commands(self):
        chosen = Random(32)
        for a_task in model.some_tasks(33, 25):
            requests = [begin(a_task)]
            for _ in range(30):
                if chosen.random() < 0.7:
                    requests.append(propose(chosen.randint(0, 4), chosen.random() < 0.3))
                else:
                    requests.append(UNDO)
                requests.append(ANSWERS)
            for answer in ask(*requests)[2::2]:
                told = told_answers(answer)
                self.assertEqual(len({action for action, yes in told}), len(told))
                self.assertTrue(all(action < len(a_task[2][0]) for action, yes in told))
                self.assertFalse(any(yes for action, yes in told[:-1]))

    def test_undo_directly_after_propose_restores_what_was_there(self):
        chosen = Random(34)
        shown = [ANSWERS, TASTES, advice(20, 1), advice(0, 0)]
        for a_task in model.some_tasks(35, 12, actions=3):
            actions = list(range(len(a_task[2][0])))
            chosen.shuffle(actions)
            begun = [propose(action, False) for action in actions[1:]]
            for yes in (True, False):
                given = ask(begin(a_task), *begun, *shown, propose(actions[0], yes), UNDO, *shown)
                before = len(begun) + 1
                self.assertEqual(given[before + 4][0], 0)
                self.assertEqual(given[before:before + 4], given[before + 6:])


if __name__ == "__main__":
    unittest.main()
