"""The job that is told: the plant, the paver, how long a load keeps, the lorries and the loads."""


class Job:
    def __init__(self):
        self.begun = False
        self.fill = 1
        self.lay = 1
        self.keep = 0
        self.fleet = 1
        self.ways = []
