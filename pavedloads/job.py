"""The job that is told: the plant, the paver, how long a load keeps, the lorries and the loads."""


class Job:
    def __init__(self):
        self.begun = False
        self.fill = 1
        self.lay = 1
        self.keep = 0
        self.fleet = 1
        self.ways = []


# What would be, with another number, is asked of a copy: looking leaves the job itself alone.
def copy_of(job):
    other = Job()
    other.begun = job.begun
    other.fill = job.fill
    other.lay = job.lay
    other.keep = job.keep
    other.fleet = job.fleet
    other.ways = list(job.ways)
    return other
