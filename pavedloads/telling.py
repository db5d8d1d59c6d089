"""The calls that tell of the job. Each answers a list of numbers; a refusal leaves the job as it was."""

from pavedloads.refusals import NO_LOADS, NONE_SUCH, OUT_OF_RANGE, TOO_MANY

MOST_WORK = 60
MOST_KEEP = 300
MOST_WAY = 120
MOST_LORRIES = 20
MOST_LOADS = 20


def is_work(minutes):
    return 1 <= minutes <= MOST_WORK


def is_keep(minutes):
    return 0 <= minutes <= MOST_KEEP


def is_way(minutes):
    return 0 <= minutes <= MOST_WAY


def is_fleet(number):
    return 1 <= number <= MOST_LORRIES


def begin(job, fill, lay, keep):
    if not (is_work(fill) and is_work(lay) and is_keep(keep)):
        return [OUT_OF_RANGE]
    job.begun = True
    job.fill = fill
    job.lay = lay
    job.keep = keep
    job.fleet = 1
    job.ways = []
    return [0]


def load(job, way):
    if not is_way(way):
        return [OUT_OF_RANGE]
    if len(job.ways) >= MOST_LOADS:
        return [TOO_MANY]
    job.ways.append(way)
    return [len(job.ways) - 1]


def drive(job, k, way):
    if k >= len(job.ways):
        return [NONE_SUCH]
    if not is_way(way):
        return [OUT_OF_RANGE]
    before = job.ways[k]
    job.ways[k] = way
    return [before]


def less(job):
    if len(job.ways) == 0:
        return [NO_LOADS]
    job.ways.pop()
    return [len(job.ways)]


def lorries(job, number):
    if not is_fleet(number):
        return [OUT_OF_RANGE]
    before = job.fleet
    job.fleet = number
    return [before]


def filling(job, minutes):
    if not is_work(minutes):
        return [OUT_OF_RANGE]
    before = job.fill
    job.fill = minutes
    return [before]


def laying(job, minutes):
    if not is_work(minutes):
        return [OUT_OF_RANGE]
    before = job.lay
    job.lay = minutes
    return [before]


def keeping(job, minutes):
    if not is_keep(minutes):
        return [OUT_OF_RANGE]
    before = job.keep
    job.keep = minutes
    return [before]
