"""Points 1 to 6 and 13: what plans are sure of, best plans, asking first, levels."""

import unittest
from fractions import Fraction
from random import Random

import model
from wording import (
    advice, ask, ask_last, begin, best, best_result, propose, sure, sure_result, told_sure, up_to, up_to_result,
    worth, worth_result,
)

EXAMPLE = (4, [2, 1, 1], [[4, 1], [-6, 1], [2, -3]])
PERCENTS = range(101)


def some_plans(seed, a_task, count):
    chosen = Random(seed)
    plans = model.all_plans(len(a_task[2][0]))
    return [chosen.choice(plans) for _ in range(count)]


def between(chosen, low, high):
    return low + (high - low) * Fraction(chosen.randint(0, 7), 7)


class Sure(unittest.TestCase):
    """Point 1, in both directions."""

    def test_no_principal_brings_less_and_the_worst_answers_bring_just_this(self):
        chosen = Random(11)
        for number, a_task in enumerate(model.some_tasks(1, 60)):
            for a_plan in some_plans(number, a_task, 4):
                error, cost = chosen.choice([0, 1, 25, 50, 73, 99, 100]), chosen.choice([0, 1, 3, 99])
                mean, chances = sure_result(ask_last(sure(a_task, a_plan, error, cost)))
                with self.subTest(task=a_task, plan=a_plan, error=error, cost=cost):
                    self.assertEqual(mean, model.least(a_task, a_plan, error, cost))
                    self.assertEqual(mean, model.brings(a_task, a_plan, chances, cost))
                    for row, yes in zip(a_task[2], chances):
                        self.assertEqual(yes, model.worst_chances(row, a_plan, error, cost))
                        for action, chance in zip(a_plan[0], yes):
                            low, high = model.bounds(row[action], error)
                            self.assertTrue(low <= chance <= high)

    def test_principals_between_the_bounds_bring_no_less(self):
        chosen = Random(12)
        for number, a_task in enumerate(model.some_tasks(2, 40)):
            for a_plan in some_plans(number, a_task, 3):
                error, cost = chosen.randint(0, 100), chosen.randint(0, 5)
                mean = told_sure(a_task, a_plan, error, cost)
                for _ in range(10):
                    chances = [
                        [between(chosen, *model.bounds(row[action], error)) for action in a_plan[0]] for row in a_task[2]
                    ]
                    self.assertGreaterEqual(model.brings(a_task, a_plan, chances, cost), mean)

    def test_no_proposals(self):
        self.assertEqual(sure_result(ask_last(sure(EXAMPLE, ([], None), 100, 99))), (0, [[], [], []]))
        self.assertEqual(sure_result(ask_last(sure(EXAMPLE, ([], 1), 100, 99))), (Fraction(0), [[], [], []]))

    def test_a_good_action_is_accepted_for_sure_if_that_is_no_better_than_the_rest(self):
        a_task = (1, [1], [[2, 2, 5]])
        self.assertEqual(told_sure(a_task, ([0], 1), 30, 0), 2)
        self.assertEqual(sure_result(ask_last(sure(a_task, ([0], 1), 30, 0)))[1], [[1]])
        self.assertEqual(sure_result(ask_last(sure(a_task, ([0], 2), 30, 0)))[1], [[1]])
        self.assertEqual(sure_result(ask_last(sure(a_task, ([2], 0), 30, 0)))[1], [[Fraction(7, 10)]])

    def test_a_bad_action_is_refused_for_sure_if_that_is_no_better_than_accepting(self):
        a_task = (1, [1], [[-2, -2, -5]])
        self.assertEqual(sure_result(ask_last(sure(a_task, ([0], 1), 30, 0)))[1], [[0]])
        self.assertEqual(sure_result(ask_last(sure(a_task, ([0], 2), 30, 0)))[1], [[0]])
        self.assertEqual(sure_result(ask_last(sure(a_task, ([2], 0), 30, 0)))[1], [[Fraction(3, 10)]])

    def test_tastes_without_a_chance_have_worst_answers_too(self):
        mean, chances = sure_result(ask_last(sure((7, [0, 7], [[-4], [6]]), ([0], None), 40, 1)))
        self.assertEqual((mean, chances), (Fraction(13, 5), [[Fraction(2, 5)], [Fraction(3, 5)]]))

    def test_four_proposals_with_long_fractions(self):
        a_task = (99, [96, 1, 1, 1], [[99, 98, 97, -96], [-99, 98, 97, 96], [99, -98, 97, 96], [99, 98, -97, 1]])
        a_plan = ([3, 1, 0, 2], 3)
        for error in (37, 51, 99):
            self.assertEqual(told_sure(a_task, a_plan, error, 7), model.least(a_task, a_plan, error, 7))


class Falling(unittest.TestCase):
    """Point 2."""

    def test_with_the_error(self):
        for number, a_task in enumerate(model.some_tasks(3, 12)):
            for a_plan in some_plans(number, a_task, 2):
                given = ask(*[sure(a_task, a_plan, error, 2) for error in PERCENTS])
                means = [sure_result(answer)[0] for answer in given]
                self.assertEqual(means, sorted(means, reverse=True))

    def test_with_the_cost(self):
        for number, a_task in enumerate(model.some_tasks(4, 12)):
            for a_plan in some_plans(number, a_task, 2):
                given = ask(*[sure(a_task, a_plan, 30, cost) for cost in range(100)])
                means = [sure_result(answer)[0] for answer in given]
                self.assertEqual(means, sorted(means, reverse=True))


class BestPlans(unittest.TestCase):
    """Points 3 and 13: the first one, of all plans, that is sure of the most."""

    def test_against_all_plans(self):
        chosen = Random(13)
        for a_task in model.some_tasks(5, 40, actions=3) + model.some_tasks(6, 6):
            error, cost = chosen.choice([0, 5, 25, 60, 100]), chosen.choice([0, 0, 1, 3])
            with self.subTest(task=a_task, error=error, cost=cost):
                given = best_result(ask_last(best(a_task, error, cost)))
                self.assertEqual(given, model.best_of(a_task, error, cost))
                self.assertEqual(given[1], told_sure(a_task, given[0], error, cost))

    def test_against_all_plans_that_begin_with_some_proposals(self):
        chosen = Random(14)
        for a_task in model.some_tasks(7, 40, actions=3) + model.some_tasks(8, 8):
            actions = len(a_task[2][0])
            begun = chosen.sample(range(actions), chosen.randint(0, actions))
            error, cost = chosen.choice([0, 5, 25, 60, 100]), chosen.choice([0, 0, 1, 3])
            with self.subTest(task=a_task, begun=begun, error=error, cost=cost):
                talk = [begin(a_task)] + [propose(action, False) for action in begun]
                given = best_result(ask_last(*talk, advice(error, cost)))
                self.assertEqual(given, model.best_of(a_task, error, cost, tuple(begun)))

    def test_ties_fewer_proposals_then_smaller_ones_then_none(self):
        nothing = (1, [1], [[0, 0, 0, 0]])
        self.assertEqual(best_result(ask_last(best(nothing, 0, 0))), (([], None), 0))
        self.assertEqual(best_result(ask_last(best((1, [1], [[5, 5]]), 0, 0))), (([], 0), 5))
        either = (2, [1, 1], [[-5, 4, 4], [4, -5, -5]])
        self.assertEqual(best_result(ask_last(best(either, 0, 0))), (([0], 1), 4))
        self.assertEqual(best_result(ask_last(best((2, [1, 1], [[-5, 0], [4, -5]]), 0, 0))), (([0], None), 2))
        talk = [begin(nothing), propose(2, False), advice(0, 0)]
        self.assertEqual(best_result(ask_last(*talk)), (([2], None), 0))

    def test_no_plan_need_be_sure_of_more_than_nothing(self):
        self.assertEqual(best_result(ask_last(best((1, [1], [[-9, -1]]), 100, 99))), (([], None), 0))

    def test_what_was_begun_may_be_sure_of_less_than_nothing(self):
        given = best_result(ask_last(begin((1, [1], [[-9, -1]])), propose(0, False), advice(50, 2)))
        self.assertEqual(given, (([0], None), Fraction(-13, 2)))

    def test_all_was_proposed(self):
        talk = [begin(EXAMPLE), propose(1, False), propose(0, False), advice(20, 1)]
        self.assertEqual(best_result(ask_last(*talk)), model.best_of(EXAMPLE, 20, 1, (1, 0)))


class AskingFirst(unittest.TestCase):
    """Points 4 and 5, in both directions."""

    def test_what_acting_and_asking_are_sure_of(self):
        chosen = Random(15)
        for a_task in model.some_tasks(9, 40):
            action = chosen.randrange(len(a_task[2][0]))
            error, cost = chosen.randint(0, 100), chosen.randint(0, 9)
            good, bad, _ = worth_result(ask_last(worth(a_task, action, cost)))
            self.assertEqual((good, bad), model.good_and_bad(a_task, action))
            e = Fraction(error, 100)
            self.assertEqual(told_sure(a_task, ([], action), error, cost), good - bad)
            self.assertEqual(told_sure(a_task, ([action], None), error, cost), (1 - e) * good - e * bad - cost)

    def test_asking_is_no_worse_just_up_to_the_told_error(self):
        chosen = Random(16)
        for a_task in model.some_tasks(10, 25):
            action = chosen.randrange(len(a_task[2][0]))
            cost = chosen.choice([0, 1, 2, 9])
            good, bad, told = worth_result(ask_last(worth(a_task, action, cost)))
            if good == 0 and bad == 0:
                self.assertIsNone(told)
                continue
            acting = told_sure(a_task, ([], action), 0, cost)
            given = ask(*[sure(a_task, ([action], None), error, cost) for error in PERCENTS])
            for error, answer in zip(PERCENTS, given):
                no_worse = sure_result(answer)[0] >= acting
                self.assertEqual(no_worse, told is not None and Fraction(error, 100) <= told)

    def test_edges_of_worth(self):
        self.assertEqual(worth_result(ask_last(worth((1, [1], [[0]]), 0, 0))), (0, 0, None))
        self.assertEqual(worth_result(ask_last(worth((1, [1], [[5]]), 0, 0))), (5, 0, 0))
        self.assertEqual(worth_result(ask_last(worth((1, [1], [[5]]), 0, 1))), (5, 0, None))
        self.assertEqual(worth_result(ask_last(worth((1, [1], [[-5]]), 0, 0))), (0, 5, 1))
        self.assertEqual(worth_result(ask_last(worth((1, [1], [[-5]]), 0, 5))), (0, 5, 0))
        self.assertEqual(worth_result(ask_last(worth((1, [1], [[-5]]), 0, 6))), (0, 5, None))

    def test_tastes_without_a_chance_do_not_count(self):
        self.assertEqual(worth_result(ask_last(worth((3, [0, 3], [[-50, 1], [0, 2]]), 0, 0))), (0, 0, None))

    def test_without_errors_and_costs(self):
        for a_task in model.some_tasks(17, 150, greatest=3, tastes=3):
            for action in range(len(a_task[2][0])):
                asking = told_sure(a_task, ([action], None), 0, 0)
                acting = told_sure(a_task, ([], action), 0, 0)
                self.assertGreaterEqual(asking, max(acting, 0))
                rewards = [row[action] for weight, row in zip(a_task[1], a_task[2]) if weight > 0]
                no_better = all(reward >= 0 for reward in rewards) or all(reward <= 0 for reward in rewards)
                self.assertEqual(asking == max(acting, 0), no_better)


class Levels(unittest.TestCase):
    """Point 6, in both directions."""

    def test_sure_of_the_level_just_up_to_the_told_error(self):
        chosen = Random(18)
        for number, a_task in enumerate(model.some_tasks(19, 20)):
            for a_plan in some_plans(number, a_task, 2):
                cost = chosen.choice([0, 1, 3])
                means = [sure_result(answer)[0] for answer in ask(*[sure(a_task, a_plan, e, cost) for e in PERCENTS])]
                around = int(chosen.choice(means))
                for level in {-99, 99, around, around - 1, around + 1} & set(range(-99, 100)):
                    told = up_to_result(ask_last(up_to(a_task, a_plan, cost, level)))
                    for error, mean in zip(PERCENTS, means):
                        self.assertEqual(mean >= level, told is not None and error <= told)

    def test_edges_of_up_to(self):
        a_task = (1, [1], [[10, -10]])
        self.assertEqual(up_to_result(ask_last(up_to(a_task, ([], 0), 0, 10))), 100)
        self.assertIsNone(up_to_result(ask_last(up_to(a_task, ([], 0), 0, 11))))
        self.assertEqual(up_to_result(ask_last(up_to(a_task, ([0], None), 0, 10))), 0)
        self.assertEqual(up_to_result(ask_last(up_to(a_task, ([0], None), 0, 0))), 100)
        self.assertEqual(up_to_result(ask_last(up_to(a_task, ([0], None), 0, 9))), 10)
        self.assertEqual(up_to_result(ask_last(up_to(a_task, ([0], None), 1, 9))), 0)
        self.assertEqual(up_to_result(ask_last(up_to(a_task, ([1], None), 0, -3))), 30)
        self.assertIsNone(up_to_result(ask_last(up_to(a_task, ([1], None), 99, -98))))


class TypicalMistakes(unittest.TestCase):
    """The row at the end of section 5."""

    def test_principals_do_not_always_err_with_the_full_chance(self):
        # Erring would bring the better rest about: the worst answers do not err.
        mean, chances = sure_result(ask_last(sure((1, [1], [[1, 9]]), ([0], 1), 50, 0)))
        self.assertEqual((mean, chances), (1, [[1]]))

    def test_errors_that_help_the_plan_are_not_the_worst(self):
        # Doing the bad action by mistake is better than the ending.
        mean, chances = sure_result(ask_last(sure((1, [1], [[-1, -9]]), ([0], 1), 50, 0)))
        self.assertEqual((mean, chances), (-9, [[0]]))

    def test_what_was_refused_is_no_sign_of_the_taste(self):
        a_task = (10, [9, 1], [[5, 3, -9], [-9, -9, 8]])
        begun = best_result(ask_last(begin(a_task), propose(0, False), advice(40, 0)))
        self.assertEqual(begun, model.best_of(a_task, 40, 0, (0,)))
        only_taste_1 = best_result(ask_last(best((1, [1], [[-9, -9, 8]]), 40, 0)))
        self.assertNotEqual(begun[0][1], only_taste_1[0][1])

    def test_proposals_that_are_not_made_cost_nothing(self):
        self.assertEqual(told_sure((1, [1], [[9, 9]]), ([0, 1], None), 0, 3), 6)
        self.assertEqual(told_sure((1, [1], [[-9, 9]]), ([0, 1], None), 0, 3), 3)
        self.assertEqual(told_sure((1, [1], [[9]]), ([], 0), 0, 3), 9)

    def test_the_cost_of_the_rest_counts_in_the_worst_answers(self):
        # Refusing 5 leads on to another proposal of 5, which costs 1.
        mean, chances = sure_result(ask_last(sure((1, [1], [[5, 5]]), ([0, 1], 1), 50, 1)))
        self.assertEqual((mean, chances), (Fraction(7, 2), [[Fraction(1, 2), 1]]))

    def test_a_reward_of_0_is_good(self):
        mean, chances = sure_result(ask_last(sure((1, [1], [[0, 7]]), ([0], 1), 0, 0)))
        self.assertEqual((mean, chances), (0, [[1]]))
        self.assertEqual(ask_last(begin((1, [1], [[0]])), propose(0, True)), [0, 1])
        self.assertEqual(ask_last(begin((1, [1], [[0]])), propose(0, False)), [0, 0])

    def test_the_best_plan_is_not_found_proposal_by_proposal(self):
        # The best single proposal is 0, but the best plan begins with 1.
        a_task = (16, [8, 7, 1], [[5, -6], [-2, -7], [0, 1]])
        self.assertEqual(best_result(ask_last(best(a_task, 0, 0))), (([1, 0], None), Fraction(41, 16)))
        # No single proposal is better than acting, yet two of them are.
        a_task = (34, [6, 7, 21], [[2, 4, -7], [-2, 4, -3], [8, -9, -1]])
        self.assertEqual(best_result(ask_last(best(a_task, 25, 0))), (([0, 1], 0), Fraction(2677, 544)))

    def test_an_ending_may_be_proposed_before(self):
        a_task = (6, [2, 3, 1], [[3, -1], [-2, -4], [9, 5]])
        self.assertEqual(told_sure(a_task, ([0, 1], 0), 20, 0), model.least(a_task, ([0, 1], 0), 20, 0))
        a_task = (29, [12, 14, 3], [[2, -1, -1], [-1, -2, 1], [2, 2, -1]])
        self.assertEqual(best_result(ask_last(best(a_task, 25, 0))), (([0, 2], 0), Fraction(463, 464)))

    def test_worth_tells_fractions_of_1_and_up_to_percents(self):
        self.assertEqual(worth_result(ask_last(worth(EXAMPLE, 0, 0)))[2], Fraction(3, 8))
        self.assertEqual(up_to_result(ask_last(up_to(EXAMPLE, ([0], None), 0, 1))), 37)


if __name__ == "__main__":
    unittest.main()
