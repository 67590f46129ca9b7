"""What plans there are from the beliefs that a search comes to."""

from surepresses.reach import deepest, explored_by, least_costs, moves_of, ways_from


class Outlook:
    """The least depths of plans to a goal; no belief is examined before it is needed, and none twice."""

    def __init__(self, case, goal):
        self._goal = goal
        self._moves = moves_of(case)
        self._least = {}

    def least(self, belief):
        """Return the least depth of the plans from a belief and the first button that one of it begins with.

        Both are None if there is no plan; the button is None if the belief meets the goal.
        """
        if belief not in self._least:
            self.look_from(belief)
        return self._least[belief]

    def look_from(self, begin):
        """Find out the least depths from a belief and from all that can come from it on the way to the goal."""
        ways = explored_by(begin, lambda belief: self.ways_at(belief))
        found = least_costs(ways, lambda belief, costs: self.depth_at(belief, costs))
        for reached in ways:
            if reached not in self._least:
                depth, button, _ = found.get(reached, (None, None, []))
                self._least[reached] = (depth, button)

    def ways_at(self, belief):
        """Return the ways from a belief; a known one is not looked behind again: it has an end, or no way at all."""
        if belief not in self._least:
            return ways_from(belief, self._goal, self._moves)
        return [] if self._least[belief][0] is None else [(None, [])]

    def depth_at(self, belief, costs):
        """Return the depth of a way from a belief, by the depths after it; the end at a known one tells its depth."""
        return self._least[belief][0] if belief in self._least else deepest(belief, costs)
