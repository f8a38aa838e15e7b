"""Tasks and plans."""


class Task:
    """A unit, a weight for each taste, and for each taste a reward for each action."""

    def __init__(self, unit, weights, rewards):
        self.unit = unit
        self.weights = weights
        self.rewards = rewards

    def action_count(self):
        """How many actions a task that was checked has."""
        return len(self.rewards[0])


class Plan:
    """Proposals, in order, and an ending: an action, or None for none."""

    def __init__(self, proposals, ending):
        self.proposals = proposals
        self.ending = ending
