"""Machines and jobs, and when each is as told."""

MOST_ROOM = 16777216
LAST_ZONE = 7
MOST_COPIES = 16
MOST_SPREAD = 16
LAST_RANK = 7


class Machine:
    def __init__(self, numbers):
        self.has = numbers[0:4]
        self.labels = numbers[4]
        self.zone = numbers[5]
        self.none = numbers[6]

    def is_as_told(self):
        return max(self.has) <= MOST_ROOM and self.zone <= LAST_ZONE and self.none == 0


class Job:
    def __init__(self, numbers):
        self.wants = numbers[0:4]
        self.needs = numbers[4]
        self.never = numbers[5]
        self.copies = numbers[6]
        self.apart = numbers[7]
        self.spread = numbers[8]
        self.rank = numbers[9]
        # All copies run or none does, so an empty list is enough to tell that the job waits.
        self.places = []

    def is_as_told(self):
        return self.has_right_wants() and self.has_right_copies() and self.rank <= LAST_RANK

    def has_right_wants(self):
        return 0 < max(self.wants) <= MOST_ROOM

    def has_right_copies(self):
        return 1 <= self.copies <= MOST_COPIES and self.apart <= 1 and self.spread <= MOST_SPREAD

    def has_copy_on(self, i):
        return i in self.places

    def runs(self):
        return len(self.places) > 0

    def run_on(self, places):
        self.places = places

    def wait(self):
        self.places = []
