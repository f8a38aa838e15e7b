"""What plans are sure of, and which ones are best."""

from askfirst.tasks import Plan

# A plan has at most four proposals, each with chances in percents. So all that
# is brought is a whole number of these parts of 1, and each division is exact.
PARTS = 100000000


def worst_yes(reward, rest, error):
    """The worst chance of yes, in percents, where a refusal brings the rest."""
    if reward >= 0:
        return 100 if 100 * reward <= (100 - error) * reward + error * rest else 100 - error
    return 0 if 100 * rest <= error * reward + (100 - error) * rest else error


def proposal_brings(reward, rest, error, cost):
    """What a proposal and the rest behind it bring with the worst answers."""
    yes = worst_yes(reward, rest, error)
    return (yes * reward + (100 - yes) * rest) // 100 - cost


def ending_brings(task, ending):
    """For each taste, what an ending brings, in parts."""
    if ending is None:
        return [0 for rewards in task.rewards]
    return [rewards[ending] * PARTS for rewards in task.rewards]


def proposals_bring(task, proposals, rests, error, cost):
    """For each taste, what the proposals bring, in parts, with the rests behind them."""
    for action in reversed(proposals):
        rests = [
            proposal_brings(rewards[action] * PARTS, rest, error, cost * PARTS)
            for rewards, rest in zip(task.rewards, rests)
        ]
    return rests


def plan_brings(task, plan, error, cost):
    """For each taste, what a plan brings, in parts, with the worst answers."""
    return proposals_bring(task, plan.proposals, ending_brings(task, plan.ending), error, cost)


def weighed(task, brought):
    """What is brought in the mean, in parts and times the unit."""
    return sum([weight * value for weight, value in zip(task.weights, brought)])


def sure_of(task, plan, error, cost):
    """What a plan is sure of, as a fraction."""
    return (weighed(task, plan_brings(task, plan, error, cost)), task.unit * PARTS)


def worst_answers(task, plan, error, cost):
    """For each taste, the worst chances of yes for each proposal, as fractions."""
    chances = [[] for rewards in task.rewards]
    for place, action in enumerate(plan.proposals):
        behind = Plan(plan.proposals[place + 1:], plan.ending)
        rests = plan_brings(task, behind, error, cost)
        for taste, rewards in enumerate(task.rewards):
            yes = worst_yes(rewards[action] * PARTS, rests[taste], error)
            chances[taste].append((yes, 100))
    return chances


def rows_of(actions):
    """All rows of different ones of the actions, in the order of plans."""
    found = [()]
    shorter = [()]
    for length in range(len(actions)):
        longer = []
        for row in shorter:
            longer.extend([row + (action,) for action in actions if action not in row])
        found.extend(longer)
        shorter = longer
    return found


def best_plan(task, begun, error, cost):
    """Of the plans that begin with some proposals, the first one sure of the most, and of what."""
    actions = list(range(task.action_count()))
    best_row = ()
    best_ending = None
    most = None
    # A row's end behind its first proposal is a row as well, and came before it.
    rests = {}
    for row in rows_of([action for action in actions if action not in begun]):
        for ending in [None] + actions:
            if len(row) == 0:
                rests[(row, ending)] = ending_brings(task, ending)
            else:
                rests[(row, ending)] = proposals_bring(task, row[:1], rests[(row[1:], ending)], error, cost)
            brought = weighed(task, proposals_bring(task, begun, rests[(row, ending)], error, cost))
            if most is None or brought > most:
                best_row = row
                best_ending = ending
                most = brought
    return (Plan(begun + list(best_row), best_ending), (most, task.unit * PARTS))


def greatest_percents(task, plan, cost, level):
    """The greatest error, in percents, with which the plan is sure of the level, or None."""
    for error in range(100, -1, -1):
        if weighed(task, plan_brings(task, plan, error, cost)) >= level * task.unit * PARTS:
            return error
    return None


def can_go_right(task, action):
    """What can go right with an action, times the unit."""
    return sum([weight * max(rewards[action], 0) for weight, rewards in zip(task.weights, task.rewards)])


def can_go_wrong(task, action):
    """What can go wrong with an action, times the unit."""
    return sum([weight * max(-rewards[action], 0) for weight, rewards in zip(task.weights, task.rewards)])


def greatest_asking_error(task, action, cost):
    """The greatest error, as a fraction of 1, with which asking is no worse than acting, or None."""
    good = can_go_right(task, action)
    bad = can_go_wrong(task, action)
    if good + bad == 0 or bad < cost * task.unit:
        return None
    return (bad - cost * task.unit, good + bad)
