"""The calls that look at the plans. Each answers a list of numbers and changes nothing."""

from pavedloads.plans import can_be, filled_latest, filled_soonest, first_why_not, has_plan, soonest_start
from pavedloads.refusals import IT_CAN_BE, IT_CANNOT_BE, OUT_OF_RANGE

LAST_START = 5000


def can(job):
    return [1] if can_be(job) else [0]


def why(job):
    told = first_why_not(job)
    return told if len(told) > 0 else [IT_CAN_BE]


def start(job):
    return [soonest_start(job)] if can_be(job) else [IT_CANNOT_BE]


# The refusal that is due where a plan with that start is asked for; an empty list if none is.
def start_refusal(job, paver_start):
    if paver_start > LAST_START:
        return [OUT_OF_RANGE]
    if not has_plan(job, paver_start):
        return [IT_CANNOT_BE]
    return []


def soonest(job, paver_start):
    refusal = start_refusal(job, paver_start)
    if len(refusal) > 0:
        return refusal
    return [len(job.ways)] + filled_soonest(job, paver_start)


def latest(job, paver_start):
    refusal = start_refusal(job, paver_start)
    if len(refusal) > 0:
        return refusal
    return [len(job.ways)] + filled_latest(job, paver_start)
