"""Where all copies of a job fit (what the document calls fi_place), and what they leave free."""

from jobyard.records import LAST_ZONE


# The machine of each copy; an empty list where not all copies fit, as every job has a copy at least.
def places_for(job, machines, free):
    places = []
    # No zone can get more than all copies, so that many stand for a spread that sets no limit.
    left_in_zone = [job.spread or job.copies] * (LAST_ZONE + 1)
    for i in sorted(machines):
        machine = machines[i]
        count = min(copies_that_fit(job, machine, free[i]), left_in_zone[machine.zone], job.copies - len(places))
        left_in_zone[machine.zone] -= count
        places.extend([i] * count)
        if len(places) == job.copies:
            return places
    return []


def copies_that_fit(job, machine, room):
    if machine.labels & job.needs != job.needs or machine.labels & job.never != 0:
        return 0
    # Some want isn't 0, so there is always something to take the least of.
    count = min([have // want for have, want in zip(room, job.wants) if want > 0])
    return min(count, 1) if job.apart == 1 else count


# What is left when the job's copies are on their machines, too. It's a copy, so that it can be tried and dropped.
def free_beside(free, job):
    left = dict(free)
    for i in job.places:
        left[i] = room_beside(left[i], job, 1)
    return left


def room_beside(room, job, count):
    return [have - count * want for have, want in zip(room, job.wants)]
