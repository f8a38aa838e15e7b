"""The document's definitions once more, by trying all principals and all plans with fractions.

Nothing here is taken from the program. A task is (unit, weights, rewards), a plan
is (proposals, ending), an error is a percentage.
"""

from fractions import Fraction
from itertools import permutations, product
from random import Random


def bounds(reward, error):
    """The least and the greatest chance of yes."""
    e = Fraction(error, 100)
    return (1 - e, Fraction(1)) if reward >= 0 else (Fraction(0), e)


def brings(a_task, a_plan, chances, cost):
    """What a plan brings in the mean with a principal's chances, by taste and place."""
    unit, weights, rewards = a_task
    proposals, ending = a_plan
    mean = Fraction(0)
    for weight, row, yes in zip(weights, rewards, chances):
        reached = Fraction(weight, unit)
        for action, chance in zip(proposals, yes):
            mean += reached * (chance * row[action] - cost)
            reached *= 1 - chance
        if ending is not None:
            mean += reached * row[ending]
    return mean


def taste_least(row, a_plan, error, cost):
    """The least that a plan brings for one taste, of all principals at the bounds.

    What is brought is linear in each chance, so the least of all is at bounds.
    """
    one = (1, [1], [row])
    ranges = [bounds(row[action], error) for action in a_plan[0]]
    return min(brings(one, a_plan, [yes], cost) for yes in product(*ranges))


def least(a_task, a_plan, error, cost):
    unit, weights, rewards = a_task
    shares = zip(weights, rewards)
    return sum((Fraction(weight, unit) * taste_least(row, a_plan, error, cost) for weight, row in shares), Fraction(0))


def all_plans(actions, begun=()):
    """All plans that begin with some proposals, in the document's order."""
    found = []
    for count in range(len(begun), actions + 1):
        for proposals in permutations(range(actions), count):
            if proposals[:len(begun)] == tuple(begun):
                found += [(list(proposals), ending) for ending in [None] + list(range(actions))]
    return found


def best_of(a_task, error, cost, begun=()):
    top = None
    for a_plan in all_plans(len(a_task[2][0]), begun):
        value = least(a_task, a_plan, error, cost)
        if top is None or value > top[1]:
            top = (a_plan, value)
    return top


def worst_chances(row, a_plan, error, cost):
    """Section 3.2 for one taste, from the last proposal to the first one."""
    proposals, ending = a_plan
    e = Fraction(error, 100)
    w = Fraction(0 if ending is None else row[ending])
    chances = []
    for action in proposals[::-1]:
        r = row[action]
        if r >= 0:
            yes = Fraction(1) if r <= (1 - e) * r + e * w else 1 - e
        else:
            yes = Fraction(0) if w <= e * r + (1 - e) * w else e
        chances = [yes] + chances
        w = yes * r + (1 - yes) * w - cost
    return chances


def good_and_bad(a_task, action):
    unit, weights, rewards = a_task
    good = sum((Fraction(w * row[action], unit) for w, row in zip(weights, rewards) if row[action] >= 0), Fraction(0))
    bad = sum((Fraction(-w * row[action], unit) for w, row in zip(weights, rewards) if row[action] < 0), Fraction(0))
    return good, bad


def is_task(a_task):
    unit, weights, rewards = a_task
    return (
        unit in range(1, 100) and len(weights) in range(1, 5) and sum(weights) == unit
        and len(rewards) == len(weights) and len({len(row) for row in rewards}) == 1
        and len(rewards[0]) in range(1, 5) and all(-99 <= reward <= 99 for row in rewards for reward in row)
    )


def is_plan(a_task, a_plan):
    actions = range(len(a_task[2][0]))
    proposals, ending = a_plan
    return (
        all(action in actions for action in proposals) and len(set(proposals)) == len(proposals)
        and (ending is None or ending in actions)
    )


def some_tasks(seed, count, greatest=99, tastes=4, actions=4):
    """Tasks of all sizes, the same ones each time; small rewards make many ties."""
    chosen = Random(seed)
    found = []
    for _ in range(count):
        taste_count = chosen.randint(1, tastes)
        action_count = chosen.randint(1, actions)
        weights = [chosen.randint(0, 24) for _ in range(taste_count)]
        if sum(weights) == 0:
            weights[chosen.randrange(taste_count)] = chosen.randint(1, 99)
        span = chosen.choice([2, 9, greatest])
        rewards = [[chosen.randint(-span, span) for _ in range(action_count)] for _ in range(taste_count)]
        found.append((sum(weights), weights, rewards))
    return found
