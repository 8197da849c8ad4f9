"""Steps: how lean covers go through workers in a row, each of whom is given by an index; -1 is before all."""


class Steps:
    """The steps of as many workers in a row, with the (first, last) indexes of each crew. They never change."""

    def __init__(self, many, spans):
        self._many = many
        self._spans = spans

    def _behind(self, before):
        """Return the indexes that make a step with the one before."""
        lasts = [last for first, last in self._spans if first > before]
        return list(range(before + 1, min(lasts, default=self._many - 1) + 1))

    def _own(self, before, at):
        """Return the last indexes of the crews that contain the one at the index, but not the one before."""
        return [last for first, last in self._spans if before < first <= at <= last]

    def first_ones(self):
        """Return the indexes with which a lean cover can begin."""
        return [] if len(self._spans) == 0 else self._behind(-1)

    def listed(self):
        """Return all steps (before, at), in ascending order of at, then of before."""
        behind = {before: self._behind(before) for before in range(-1, self._many)}
        return [(before, at) for at in range(self._many) for before in range(-1, at) if at in behind[before]]

    def ends(self, before, at):
        """Return whether the step ends."""
        return len(self._own(before, at)) > 0 and all([first <= at for first, last in self._spans])

    def following(self, before, at):
        """Return the indexes with which the step goes on."""
        own = self._own(before, at)
        if len(own) == 0:
            return []
        return [later for later in self._behind(at) if later > min(own)]

    def ways(self):
        """Return a dict: in how many ways each step goes on and ends."""
        ways = {}
        for before, at in reversed(self.listed()):
            if self.ends(before, at):
                ways[before, at] = 1
            else:
                ways[before, at] = sum([ways[at, later] for later in self.following(before, at)])
        return ways

    def worths(self):
        """Return a dict: the greatest number of steps in which each step goes on and ends, or None."""
        worths = {}
        for before, at in reversed(self.listed()):
            further = [worths[at, later] for later in self.following(before, at)]
            if self.ends(before, at):
                further.append(0)
            worths[before, at] = max([worth + 1 for worth in further if worth is not None], default=None)
        return worths
