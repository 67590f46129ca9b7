"""Live searches: presses and answers are told as they come, and can be taken back."""

from surepresses.cases import check_goal, copied, is_met_by
from surepresses.errors import ImpossibleAnswer, NoPlan, NothingToUndo
from surepresses.outlook import Outlook
from surepresses.plans import closed
from surepresses.reach import start_of


class Search:
    """A live search: what the told presses and answers leave of a case, and what leads on to a goal."""

    def __init__(self, case, goal):
        check_goal(case, goal)
        self._case = case
        self._goal = tuple([copied(entry) for entry in goal])
        self._outlook = Outlook(case, self._goal)
        self._told = []
        # The beliefs ahead of the presses and behind the last one, so that a press can be taken back.
        self._beliefs = [start_of(case)]

    def __call__(self, button, answer):
        """Tell a press and its answer; return the belief after it."""
        return self.take([(button, answer)], False)

    def tell_all(self, rows):
        """Tell the presses and answers of a list, or none of them if one raises an error; return the belief."""
        return self.take(rows, False)

    def take(self, rows, is_sure):
        """Tell all presses and answers or none; if it is to be sure, the goal must stay in reach."""
        told = []
        beliefs = [self._beliefs[-1]]
        for button, answer in rows:
            branches = self._case.next_beliefs(list(beliefs[-1]), button)
            if is_sure and not self.keeps_goal(branches):
                raise NoPlan(button)
            shown, after = branch_of(branches, answer)
            told.append((button, shown))
            beliefs.append(tuple(after))
        self._told.extend(told)
        self._beliefs.extend(beliefs[1:])
        return self.belief

    def keeps_goal(self, branches):
        """Tell whether some plan leads to the goal from the belief after each answer."""
        depths = [self._outlook.least(tuple(after))[0] for _, after in branches]
        return all([depth is not None for depth in depths])

    @property
    def belief(self):
        """The belief now."""
        return list(self._beliefs[-1])

    @property
    def told(self):
        """The presses (button, answer) that were told and not taken back."""
        return [(button, list(answer)) for button, answer in self._told]

    @property
    def is_met(self):
        """True if the belief meets the goal."""
        return is_met_by(self._goal, self._beliefs[-1])

    def left(self):
        """Return the least depth of a plan from the belief, None if there is none."""
        depth, _ = self._outlook.least(self._beliefs[-1])
        return depth

    def advice(self):
        """Return the first button that a plan of the least depth begins with, None if there is none."""
        _, button = self._outlook.least(self._beliefs[-1])
        return button

    def undo(self):
        """Take back the last press."""
        if self._told == []:
            raise NothingToUndo(0)
        self._told.pop()
        self._beliefs.pop()

    def __len__(self):
        return len(self._told)

    def __eq__(self, other):
        return (
            isinstance(other, Search)
            and isinstance(self, SureSearch) == isinstance(other, SureSearch)
            and self._case == other._case
            and self._goal == other._goal
            and self._told == other._told
        )


class SureSearch(Search):
    """A live search by which the goal stays in reach, whatever the answers are."""

    def __init__(self, case, goal):
        super().__init__(case, goal)
        if self.left() is None:
            raise NoPlan(closed(case, goal))

    def __call__(self, button, answer):
        """Tell a press, which keeps the goal in reach, and its answer; return the belief after it."""
        return self.take([(button, answer)], True)

    def tell_all(self, rows):
        """Tell presses, which keep the goal in reach, and answers, all or none; return the belief."""
        return self.take(rows, True)


def branch_of(branches, answer):
    """Return (answer, belief after it) of the branch with the lamps of an answer, whatever their order."""
    lamps = sorted(set(answer))
    for shown, after in branches:
        if sorted(shown) == lamps:
            return (shown, after)
    raise ImpossibleAnswer(list(answer))
