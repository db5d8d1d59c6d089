"""The interface: a list of calls in, a list of their answers out."""

from pavedloads.job import Job
from pavedloads.limits import fewest, leastkeep, leastlay, mostfill, spare
from pavedloads.listing import drives, state, tour
from pavedloads.looking import ages, can, ends, ifstart, latest, soonest, start, tried, waits, why
from pavedloads.refusals import NOT_BEGUN
from pavedloads.telling import begin, drive, filling, keeping, laying, less, load, lorries

BEGIN = 0
LOAD = 1
DRIVE = 2
LESS = 3
LORRIES = 4
FILLING = 5
LAYING = 6
KEEPING = 7
CAN = 8
WHY = 9
START = 10
SOONEST = 11
LATEST = 12
AGES = 13
WAITS = 14
IFSTART = 15
ENDS = 16
TRIED = 17
FEWEST = 18
LEASTLAY = 19
LEASTKEEP = 20
MOSTFILL = 21
SPARE = 22
TOUR = 23
DRIVES = 24

# How many whole numbers each call takes, by its number; the row of a tried stands behind its.
TAKES = (3, 1, 2, 0, 1, 1, 1, 1, 0, 0, 0, 1, 1, 1, 1, 1, 1, 1, 0, 0, 0, 0, 1, 1, 0, 0)


def call_end(calls, at):
    end = at + 1 + TAKES[calls[at]]
    if calls[at] == TRIED:
        end = end + 1 + calls[end]
    return end


def telling_answer(job, call, told):
    if call == BEGIN:
        return begin(job, told[0], told[1], told[2])
    if call == LOAD:
        return load(job, told[0])
    if call == DRIVE:
        return drive(job, told[0], told[1])
    if call == LESS:
        return less(job)
    if call == LORRIES:
        return lorries(job, told[0])
    if call == FILLING:
        return filling(job, told[0])
    if call == LAYING:
        return laying(job, told[0])
    return keeping(job, told[0])


def looking_answer(job, call, told):
    if call == CAN:
        return can(job)
    if call == WHY:
        return why(job)
    if call == START:
        return start(job)
    if call == SOONEST:
        return soonest(job, told[0])
    if call == LATEST:
        return latest(job, told[0])
    if call == AGES:
        return ages(job, told[0])
    if call == WAITS:
        return waits(job, told[0])
    if call == IFSTART:
        return ifstart(job, told[0])
    if call == ENDS:
        return ends(job, told[0])
    # told[1] is how many numbers the row has.
    return tried(job, told[0], told[2:])


def limits_answer(job, call, told):
    if call == FEWEST:
        return fewest(job)
    if call == LEASTLAY:
        return leastlay(job)
    if call == LEASTKEEP:
        return leastkeep(job)
    if call == MOSTFILL:
        return mostfill(job)
    return spare(job, told[0])


def listing_answer(job, call, told):
    if call == TOUR:
        return tour(job, told[0])
    if call == DRIVES:
        return drives(job)
    return state(job)


def answer(job, call, told):
    if call != BEGIN and not job.begun:
        return [NOT_BEGUN]
    if call <= KEEPING:
        return telling_answer(job, call, told)
    if call <= TRIED:
        return looking_answer(job, call, told)
    if call <= SPARE:
        return limits_answer(job, call, told)
    return listing_answer(job, call, told)


def answers(calls):
    job = Job()
    given = []
    at = 0
    while at < len(calls):
        end = call_end(calls, at)
        numbers = answer(job, calls[at], calls[at + 1:end])
        given.append(len(numbers))
        given.extend(numbers)
        at = end
    return given
