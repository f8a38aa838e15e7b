"""The talk: proposals and their answers, one after another."""

from askfirst.refusals import Decided, NothingToUndo, ProposedBefore


class Talk:
    """A talk about a task, with each proposal so far and whether the answer was yes."""

    def __init__(self, task):
        self.task = task
        self.told = []

    def proposed(self):
        """The actions proposed so far, in order."""
        return [action for action, yes in self.told]

    def check_undecided(self):
        """Refuse what is too late behind a yes."""
        if any([yes for action, yes in self.told]):
            raise Decided()

    def propose(self, action, yes):
        """An action of the task is proposed and answered."""
        self.check_undecided()
        if action in self.proposed():
            raise ProposedBefore()
        self.told.append((action, yes))

    def undo(self):
        """The last proposal is undone."""
        if len(self.told) == 0:
            raise NothingToUndo()
        self.told.pop()

    def can_be(self, taste):
        """Whether a taste has a chance above 0, and all answers were right for it."""
        if self.task.weights[taste] == 0:
            return False
        rewards = self.task.rewards[taste]
        return all([(rewards[action] >= 0) == yes for action, yes in self.told])

    def possible_tastes(self):
        """The tastes that can be, ascending."""
        return [taste for taste in range(len(self.task.weights)) if self.can_be(taste)]
