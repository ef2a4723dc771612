"""The one object of a line: the sea as it is, and as it was before its last changes."""

from hourstheyhave.limits import CHANGES_KEPT


class Log:
    """A sea that stands in the log is never altered: a change puts an altered duplicate in its place."""

    def __init__(self):
        self.now = None
        self.earlier = []

    def begin(self, sea):
        self.now = sea
        self.earlier = []

    def change_to(self, sea):
        known = self.earlier + [self.now]
        self.earlier = known[-CHANGES_KEPT:]
        self.now = sea
