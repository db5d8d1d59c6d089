"""The interface: a list of calls in, a list of their answers out."""

from pavedloads.job import Job
from pavedloads.looking import can, latest, soonest, start, why
from pavedloads.refusals import NOT_BEGUN
from pavedloads.telling import begin, drive, filling, keeping, laying, less, load, lorries

BEGIN = 0
LOAD = 1
DRIVE = 2
LESS = 3
LORRIES = 4
FILLING = 5
LAYING = 6
KEEPING = 7
CAN = 8
WHY = 9
START = 10
SOONEST = 11
LATEST = 12
TRIED = 17

# How many whole numbers each call takes, by its number. All calls stand here, also those that are
# not built yet: before a begin that answers 0 they are to be read, too.
TAKES = (3, 1, 2, 0, 1, 1, 1, 1, 0, 0, 0, 1, 1, 1, 1, 1, 1, 1, 0, 0, 0, 0, 1, 1, 0, 0)


class NotBuilt(Exception):
    pass


def call_end(calls, at):
    end = at + 1 + TAKES[calls[at]]
    if calls[at] == TRIED:
        end = end + 1 + calls[end]
    return end


def telling_answer(job, call, told):
    if call == BEGIN:
        return begin(job, told[0], told[1], told[2])
    if call == LOAD:
        return load(job, told[0])
    if call == DRIVE:
        return drive(job, told[0], told[1])
    if call == LESS:
        return less(job)
    if call == LORRIES:
        return lorries(job, told[0])
    if call == FILLING:
        return filling(job, told[0])
    if call == LAYING:
        return laying(job, told[0])
    return keeping(job, told[0])


def looking_answer(job, call, told):
    if call == CAN:
        return can(job)
    if call == WHY:
        return why(job)
    if call == START:
        return start(job)
    if call == SOONEST:
        return soonest(job, told[0])
    if call == LATEST:
        return latest(job, told[0])
    raise NotBuilt(f"call {call}")


def answer(job, call, told):
    if call != BEGIN and not job.begun:
        return [NOT_BEGUN]
    if call <= KEEPING:
        return telling_answer(job, call, told)
    return looking_answer(job, call, told)


def answers(calls):
    job = Job()
    given = []
    at = 0
    while at < len(calls):
        end = call_end(calls, at)
        numbers = answer(job, calls[at], calls[at + 1:end])
        given.append(len(numbers))
        given.extend(numbers)
        at = end
    return given
