"""The calls that look at the plans. Each answers a list of numbers and changes nothing."""

from pavedloads.plans import ages_soonest, begun_at, can_be, filled_latest, filled_soonest
from pavedloads.plans import first_why_not, has_plan, is_plan, soonest_start
from pavedloads.refusals import IT_CAN_BE, IT_CANNOT_BE, OUT_OF_RANGE

LAST_START = 5000


def can(job):
    return [1] if can_be(job) else [0]


def why(job):
    told = first_why_not(job)
    return told if len(told) > 0 else [IT_CAN_BE]


def start(job):
    return [soonest_start(job)] if can_be(job) else [IT_CANNOT_BE]


def ifstart(job, paver_start):
    if paver_start > LAST_START:
        return [OUT_OF_RANGE]
    return [1] if has_plan(job, paver_start) else [0]


# The refusal that is due where a plan with that start is asked for; an empty list if none is.
def start_refusal(job, paver_start):
    if paver_start > LAST_START:
        return [OUT_OF_RANGE]
    if not has_plan(job, paver_start):
        return [IT_CANNOT_BE]
    return []


def soonest(job, paver_start):
    refusal = start_refusal(job, paver_start)
    if len(refusal) > 0:
        return refusal
    return [len(job.ways)] + filled_soonest(job, paver_start)


def latest(job, paver_start):
    refusal = start_refusal(job, paver_start)
    if len(refusal) > 0:
        return refusal
    return [len(job.ways)] + filled_latest(job, paver_start)


def ages(job, paver_start):
    refusal = start_refusal(job, paver_start)
    if len(refusal) > 0:
        return refusal
    return [len(job.ways)] + ages_soonest(job, paver_start)


def waits(job, paver_start):
    refusal = start_refusal(job, paver_start)
    if len(refusal) > 0:
        return refusal
    # A load is either on the way or waiting, from being filled till it's begun.
    waited = [age - way for age, way in zip(ages_soonest(job, paver_start), job.ways)]
    return [len(job.ways)] + waited


def ends(job, paver_start):
    refusal = start_refusal(job, paver_start)
    if len(refusal) > 0:
        return refusal
    # The last load is laid when one more would be begun.
    return [begun_at(job, paver_start, len(job.ways))]


def tried(job, paver_start, row):
    if paver_start > LAST_START or len(row) != len(job.ways):
        return [OUT_OF_RANGE]
    return [1] if is_plan(job, paver_start, row) else [0]
