"""How many inks are brought into a press for jobs, and the order of jobs that needs the fewest."""

from gathersheets.errors import BadArgument


def wash_cost(jobs, order, room):
    """The least number of inks that are brought in for the jobs in this order."""
    _refuse_jobs(jobs, room)
    state = (0, [], {})
    for job in order:
        state = _printed(state, jobs[job], room)
    again, _, last = state
    return len(last) + again


def best_job_order(jobs, room):
    """The pair (order, cost) of the first order with the least wash cost."""
    _refuse_jobs(jobs, room)
    none_yet = (sum([len(inks) for inks in jobs]) + 1, ())
    _, order = _best_from((), (0, [], {}), jobs, room, none_yet)
    return order, wash_cost(jobs, order, room)


def _refuse_jobs(jobs, room):
    if any([len(inks) > room for inks in jobs]):
        raise BadArgument("inks")


def _printed(state, inks, room):
    """The state behind one more job.

    A state is (again, loads, last): how many inks were brought in that had been in the press
    before, how many inks are in the press at each job, and the last job of each ink.
    """
    # An ink stays in the press from its last job to this one if there is room at each job between.
    # Those that stay for earlier jobs take their room for a shorter time than any other one that
    # could stay there instead, so letting them stay is never worse.
    again, loads, last = state
    now = len(loads)
    last = dict(last)
    for ink in inks:
        kept = _with_one_more(loads, last.get(ink, now) + 1, room)
        if kept is None:
            again += 1
        else:
            loads = kept
        last[ink] = now
    return again, loads + [len(inks)], last


def _with_one_more(loads, begin, room):
    """The loads with one more ink from a job on; None if there is no room for it."""
    if any([load >= room for load in loads[begin:]]):
        return None
    return loads[:begin] + [load + 1 for load in loads[begin:]]


def _best_from(order, state, jobs, room, best):
    """The least pair (again, order) that begins with these jobs, or the best one so far if that is as good."""
    # Each ink is brought in once by any order, so that orders differ by the inks brought in again.
    # They are tried by their numbers: one that is only as good as the best one so far is behind it.
    if state[0] >= best[0]:
        return best
    if len(order) == len(jobs):
        return state[0], order
    for job in range(len(jobs)):
        if job not in order:
            best = _best_from(order + (job,), _printed(state, jobs[job], room), jobs, room, best)
    return best
