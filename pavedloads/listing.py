"""The calls that list what was told, or what goes by a lorry. They change nothing."""

from pavedloads.refusals import NONE_SUCH


def tour(job, lorry):
    if lorry >= job.fleet:
        return [NONE_SUCH]
    gone = [k for k in range(len(job.ways)) if k % job.fleet == lorry]
    return [len(gone)] + gone


def drives(job):
    return [len(job.ways)] + job.ways


def state(job):
    return [0, job.fill, job.lay, job.keep, job.fleet, len(job.ways)]
