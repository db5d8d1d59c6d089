"""When each load may be filled, and which two loads tell why there is no plan."""

BY_AGE = 0
BY_LORRIES = 1


def tell_by_age(job, j, k):
    between = k - j
    return between * job.lay + job.keep < between * job.fill + job.ways[k]


def tell_by_lorries(job, j, k):
    if j < job.fleet:
        return False
    between = k - j
    laid = (between + job.fleet - 1) * job.lay
    return laid < (between + 1) * job.fill + job.ways[j - job.fleet] + job.ways[k]


# By what, and the two loads; an empty list if no two loads tell why not.
def first_why_not(job):
    number = len(job.ways)
    for j in range(number):
        for k in range(j, number):
            if tell_by_age(job, j, k):
                return [BY_AGE, j, k]
            if tell_by_lorries(job, j, k):
                return [BY_LORRIES, j, k]
    return []


# How long ahead of being begun load k may be filled, at the most, beside the load filled ahead of it
# (that one so long ahead of its own). It doesn't hang on the start, as long as minute 0 is far enough back.
def most_ahead(job, k, before):
    ahead = job.keep
    if k > 0:
        ahead = min(ahead, before + job.lay - job.fill)
    if k < job.fleet:
        return ahead
    return min(ahead, (job.fleet - 1) * job.lay - job.ways[k - job.fleet] - job.fill)


# The two loads that tell why not say the same, but this is asked hundreds of times in a row, and pairs are many.
def can_be(job):
    ahead = 0
    for k, way in enumerate(job.ways):
        ahead = most_ahead(job, k, ahead)
        if ahead < way:
            return False
    return True


# No start is sooner than the plant allows that fills from minute 0 on without a rest.
def soonest_start(job):
    soonest = 0
    for k, way in enumerate(job.ways):
        soonest = max(soonest, (k + 1) * job.fill + way - k * job.lay)
    return soonest


def has_plan(job, paver_start):
    # Whether two loads tell why not doesn't hang on the start: beside them minute 0 alone holds it back.
    return can_be(job) and paver_start >= soonest_start(job)


def begun_at(job, paver_start, k):
    return paver_start + k * job.lay


def back_at(job, paver_start, k):
    # The lorry stands at the paver till its load is laid, that is, till the next one is begun.
    return begun_at(job, paver_start, k + 1) + job.ways[k]


# What holds load k back by itself, without the loads that the plant fills ahead of it.
def not_before(job, paver_start, k):
    soonest = max(job.fill, begun_at(job, paver_start, k) - job.keep)
    if k < job.fleet:
        return soonest
    return max(soonest, back_at(job, paver_start, k - job.fleet) + job.fill)


def filled_soonest(job, paver_start):
    filled = []
    plant_free = 0
    for k in range(len(job.ways)):
        plant_free = max(plant_free + job.fill, not_before(job, paver_start, k))
        filled.append(plant_free)
    return filled


# How old each load is when it's begun, filled as soon as may be.
def ages_soonest(job, paver_start):
    return [
        begun_at(job, paver_start, k) - filled
        for k, filled in enumerate(filled_soonest(job, paver_start))
    ]


def filled_latest(job, paver_start):
    backward = []
    number = len(job.ways)
    # Nothing is filled behind the last load: the paver's end is late enough to hold it back by nothing.
    next_filling = begun_at(job, paver_start, number)
    for k in range(number - 1, -1, -1):
        filled = min(next_filling, begun_at(job, paver_start, k) - job.ways[k])
        backward.append(filled)
        next_filling = filled - job.fill
    return backward[::-1]


def is_plan(job, paver_start, filled):
    plant_free = 0
    for k, way in enumerate(job.ways):
        if filled[k] < max(plant_free + job.fill, not_before(job, paver_start, k)):
            return False
        if filled[k] + way > begun_at(job, paver_start, k):
            return False
        plant_free = filled[k]
    return True
