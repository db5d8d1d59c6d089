"""The calls that look how far one number may go, all others as they are, so that it can be."""

from pavedloads.job import copy_of
from pavedloads.plans import can_be
from pavedloads.refusals import IT_CANNOT_BE, NONE_SUCH
from pavedloads.telling import MOST_KEEP, MOST_LORRIES, MOST_WORK

MOST_SPARE = 300


def fewest(job):
    other = copy_of(job)
    for fleet in range(1, MOST_LORRIES + 1):
        other.fleet = fleet
        if can_be(other):
            return [fleet]
    return [IT_CANNOT_BE]


def leastlay(job):
    other = copy_of(job)
    for lay in range(1, MOST_WORK + 1):
        other.lay = lay
        if can_be(other):
            return [lay]
    return [IT_CANNOT_BE]


def leastkeep(job):
    other = copy_of(job)
    for keep in range(MOST_KEEP + 1):
        other.keep = keep
        if can_be(other):
            return [keep]
    return [IT_CANNOT_BE]


def mostfill(job):
    other = copy_of(job)
    for fill in range(MOST_WORK, 0, -1):
        other.fill = fill
        if can_be(other):
            return [fill]
    return [IT_CANNOT_BE]


# The way may come out longer here than one that can be told.
def spare(job, k):
    if k >= len(job.ways):
        return [NONE_SUCH]
    if not can_be(job):
        return [IT_CANNOT_BE]
    other = copy_of(job)
    for more in range(1, MOST_SPARE + 1):
        other.ways[k] = job.ways[k] + more
        if not can_be(other):
            return [more - 1]
    return [MOST_SPARE]
