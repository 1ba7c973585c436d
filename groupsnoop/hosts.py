"""A host and what it keeps."""

from groupsnoop.ranges import MOST_GROUPS_OF_HOST
from groupsnoop.wants import NOTHING

NO_PORT = -1


# Wants and serials always have the same groups as keys.
class Host:
    def __init__(self, number):
        self.number = number
        self.port = NO_PORT
        self.wants = {}
        self.serials = {}

    def want_of(self, group):
        return self.wants.get(group, NOTHING)

    def can_keep(self, group):
        return group in self.wants or len(self.wants) < MOST_GROUPS_OF_HOST
