"""The one object of a line: the sea as it is, and as it was around its last changes."""

from hourstheyhave.limits import CHANGES_KEPT


class Log:
    """A sea that stands in the log is never altered: a change puts an altered duplicate in its place.

    earlier holds the seas that changes can be taken back to, later those that they can be done again to;
    of each the nearest to the sea as it is comes last.
    """

    def __init__(self):
        self.now = None
        self.earlier = []
        self.later = []

    def begin(self, sea):
        self.now = sea
        self.earlier = []
        self.later = []

    def change_to(self, sea):
        known = self.earlier + [self.now]
        self.earlier = known[-CHANGES_KEPT:]
        self.now = sea
        self.later = []

    def take_back(self):
        self.later.append(self.now)
        self.now = self.earlier.pop()

    def do_again(self):
        # What is done again was taken back out of earlier, so there are never more than are kept.
        self.earlier.append(self.now)
        self.now = self.later.pop()
