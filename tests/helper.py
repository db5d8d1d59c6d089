"""What the tests share: calls by their names, a look at the whole object, and a plain search for plans."""

from pavedloads.loads import answers

GREATEST = 4294967295

NUMBERS = {
    "begin": 0, "load": 1, "drive": 2, "less": 3, "lorries": 4, "filling": 5, "laying": 6, "keeping": 7,
    "can": 8, "why": 9, "start": 10, "soonest": 11, "latest": 12, "ages": 13, "waits": 14, "ifstart": 15,
    "ends": 16, "tried": 17, "fewest": 18, "leastlay": 19, "leastkeep": 20, "mostfill": 21, "spare": 22,
    "tour": 23, "drives": 24, "state": 25,
}


def call(name, *told):
    """A row is told as a list; how many numbers it has is set before it."""
    numbers = [NUMBERS[name]]
    for one in told:
        numbers += [len(one), *one] if isinstance(one, list) else [one]
    return numbers


def loads(ways):
    return [call("load", way) for way in ways]


def job(fill, lay, keep, fleet, ways):
    return [call("begin", fill, lay, keep), call("lorries", fleet), *loads(ways)]


def split(given):
    """The answers one by one, by the counts that stand before them."""
    parts = []
    at = 0
    while at < len(given):
        count = given[at]
        assert count >= 1 and at + 1 + count <= len(given)
        parts.append(given[at + 1:at + 1 + count])
        at += 1 + count
    return parts


def run(calls):
    """The answers of these calls, each a list."""
    flat = [number for one in calls for number in one]
    parts = split(answers(flat))
    assert len(parts) == len(calls)
    return parts


def last(calls):
    return run(calls)[-1]


def ask(calls, *name_and_told):
    """What one more call answers behind these."""
    return last([*calls, call(*name_and_told)])


# State and drives tell the whole object; the calls behind them answer what was there before each,
# so that the object is told a second time without these two.
LOOK = [
    call("state"), call("drives"),
    call("can"), call("why"), call("start"), call("soonest", 5000), call("latest", 5000),
    call("lorries", 1), call("filling", 1), call("laying", 1), call("keeping", 0),
    *[call("drive", k, 0) for k in range(21)],
    call("less"),
]


def look(calls):
    return run([*calls, *LOOK])[len(calls):]


# From here on: plans as the document defines them, minute by minute, with nothing of the program.

def fits(fill, lay, keep, fleet, ways, start, filled, k):
    """Whether load k may be filled then, beside those ahead of it."""
    begun = start + k * lay
    filling_begins = filled[k] - fill
    if filling_begins < 0:
        return False
    if k > 0 and filling_begins < filled[k - 1]:
        return False
    for earlier in range(k):
        if earlier % fleet == k % fleet:
            laid = start + earlier * lay + lay
            if filling_begins < laid + ways[earlier]:
                return False
    return filled[k] + ways[k] <= begun and begun - filled[k] <= keep


def is_plan(fill, lay, keep, fleet, ways, start, filled):
    if len(filled) != len(ways):
        return False
    return all(fits(fill, lay, keep, fleet, ways, start, filled, k) for k in range(len(ways)))


def all_plans(fill, lay, keep, fleet, ways, start):
    """Every plan with that start, found by trying every minute for every load."""
    plans = [[]]
    for k in range(len(ways)):
        longer = []
        for plan in plans:
            for minute in range(start + k * lay + 1):
                if fits(fill, lay, keep, fleet, ways, start, [*plan, minute], k):
                    longer.append([*plan, minute])
        plans = longer
    return plans


def first_plan(fill, lay, keep, fleet, ways, start):
    """The plan with that start in which each load is filled at the first minute that fits; None without a plan.

    A load that is filled sooner holds back none behind it, so no later minute of it needs to be tried."""
    filled = []
    for k in range(len(ways)):
        begun = start + k * lay
        for minute in range(max(0, begun - keep), begun + 1):
            if fits(fill, lay, keep, fleet, ways, start, [*filled, minute], k):
                filled.append(minute)
                break
        else:
            return None
    return filled


def plan_there_is(fill, lay, keep, fleet, ways):
    """A plan that is moved to later as a whole is a plan: if there's one, there's one with this start."""
    return first_plan(fill, lay, keep, fleet, ways, 5000) is not None


def minutes_of_plans(fill, lay, keep, fleet, ways, start):
    """For each load the minutes at which some plan with that start has it filled; None without a plan.

    It is for jobs whose plans are too many to be listed: a load's own minutes are tried one by one,
    then those are struck that no minute of the load ahead, or of the one behind, goes with."""
    number = len(ways)
    allowed = []
    for k in range(number):
        begun = start + k * lay
        back = [start + j * lay + lay + ways[j] for j in range(k) if j % fleet == k % fleet]
        allowed.append([
            minute for minute in range(max(0, begun - 400), begun + 1)
            if minute - fill >= 0 and minute + ways[k] <= begun and begun - minute <= keep
            and all(minute - fill >= one for one in back)
        ])
    for k in range(1, number):
        allowed[k] = [m for m in allowed[k] if any(m - fill >= one for one in allowed[k - 1])]
    for k in range(number - 2, -1, -1):
        allowed[k] = [m for m in allowed[k] if any(one - fill >= m for one in allowed[k + 1])]
    if any(len(minutes) == 0 for minutes in allowed):
        return None
    return allowed


def pairs_that_tell(fill, lay, keep, fleet, ways):
    """Each two loads that tell why not, in order, with 0 by age or 1 by lorries alone."""
    pairs = []
    for j in range(len(ways)):
        for k in range(j, len(ways)):
            by_age = (k - j) * lay + keep < (k - j) * fill + ways[k]
            by_lorries = (
                j >= fleet
                and (k - j + fleet - 1) * lay < (k - j + 1) * fill + ways[j - fleet] + ways[k]
            )
            if by_age or by_lorries:
                pairs.append([0 if by_age else 1, j, k])
    return pairs
