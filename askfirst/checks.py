"""What arguments may be beyond their form."""

from askfirst.refusals import NoSuchAction, WrongCost, WrongError, WrongLevel, WrongPlan, WrongTask

MOST_TASTES = 4
MOST_ACTIONS = 4
GREATEST_UNIT = 99
GREATEST_REWARD = 99
GREATEST_ERROR = 100
GREATEST_COST = 99
GREATEST_LEVEL = 99


def check_task(task):
    """Refuse what is no task; checked tasks have a first taste."""
    if task.unit < 1 or task.unit > GREATEST_UNIT:
        raise WrongTask()
    if len(task.weights) < 1 or len(task.weights) > MOST_TASTES:
        raise WrongTask()
    if sum(task.weights) != task.unit:
        raise WrongTask()
    if len(task.rewards) != len(task.weights):
        raise WrongTask()
    check_rewards(task.rewards)


def check_rewards(rewards):
    """Refuse rewards that are not 1 to 4 in bounds, as many for each taste."""
    actions = len(rewards[0])
    if actions < 1 or actions > MOST_ACTIONS:
        raise WrongTask()
    for row in rewards:
        if len(row) != actions:
            raise WrongTask()
        for reward in row:
            if abs(reward) > GREATEST_REWARD:
                raise WrongTask()


def has_action(task, action):
    """Whether an octet is one of the actions of a task that was checked."""
    return action < task.action_count()


def check_plan(task, plan):
    """Refuse what is no plan for the task; an ending may be proposed before."""
    for action in plan.proposals:
        if not has_action(task, action):
            raise WrongPlan()
    if len(set(plan.proposals)) != len(plan.proposals):
        raise WrongPlan()
    if plan.ending is not None and not has_action(task, plan.ending):
        raise WrongPlan()


def check_action(task, action):
    """Refuse an action that the task does not have."""
    if not has_action(task, action):
        raise NoSuchAction()


def check_error(error):
    """Refuse an error that is not from 0 to 100 percents."""
    if error > GREATEST_ERROR:
        raise WrongError()


def check_cost(cost):
    """Refuse a cost that is not from 0 to 99."""
    if cost > GREATEST_COST:
        raise WrongCost()


def check_level(level):
    """Refuse a level that is not from -99 to 99."""
    if abs(level) > GREATEST_LEVEL:
        raise WrongLevel()
