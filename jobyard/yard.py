"""A yard of machines and jobs, and its calls in numbers."""

from jobyard.places import free_beside, places_for, room_beside
from jobyard.records import LAST_RANK, Job, Machine

LAST_MACHINE = 63
LAST_JOB = 127

NOT_THERE = -2
WAITS = -11
NONE_CAN_BE_PLACED = -11
THERE_ALREADY = -17
NOT_AS_TOLD = -22

JO_START = 0
JO_MACHINE = 1
JO_DOWN = 2
JO_JOB = 3
JO_END = 4
JO_TURN = 5
JO_WHERE = 6
JO_FREE = 7

# Tells where the next call begins: how many numbers stand behind a call's own number.
NUMBERS_BEHIND = {0: 0, 1: 8, 2: 1, 3: 11, 4: 1, 5: 0, 6: 1, 7: 1}

FORM_OF_A_NUMBER = 0
FORM_OF_A_TURN = 1
FORM_OF_PLACES = 2
FORM_OF_ROOM = 3


class UnknownCall(ValueError):
    pass


class Yard:
    def __init__(self):
        self.machines = {}
        # A dict keeps the order in which its keys came, and so the order in which the jobs came.
        self.jobs = {}

    def jo_start(self):
        self.machines = {}
        self.jobs = {}
        return 0

    def jo_machine(self, i, machine):
        return put_in(self.machines, i, LAST_MACHINE, machine)

    def jo_down(self, i):
        if i not in self.machines:
            return NOT_THERE
        stopped = [job for job in self.jobs.values() if job.has_copy_on(i)]
        for job in stopped:
            job.wait()
        self.machines.pop(i)
        return len(stopped)

    def jo_job(self, j, job):
        return put_in(self.jobs, j, LAST_JOB, job)

    def jo_end(self, j):
        if j not in self.jobs:
            return NOT_THERE
        self.jobs.pop(j)
        return len(self.jobs)

    def jo_turn(self):
        free = {}
        for i in self.machines:
            free[i] = self.machines[i].has
        # The row is walked rank by rank: at each, all of lesser rank count as put out, so they take no room yet.
        for rank in range(LAST_RANK, -1, -1):
            for j in self.running(rank):
                free = free_beside(free, self.jobs[j])
            for j in self.waiting(rank):
                if places_for(self.jobs[j], self.machines, free):
                    put_out = self.place(self.jobs[j], free)
                    return [FORM_OF_A_TURN, j, len(put_out)] + put_out
        return [FORM_OF_A_NUMBER, NONE_CAN_BE_PLACED]

    def jo_where(self, j):
        if j not in self.jobs:
            return [FORM_OF_A_NUMBER, NOT_THERE]
        job = self.jobs[j]
        if not job.runs():
            return [FORM_OF_A_NUMBER, WAITS]
        return [FORM_OF_PLACES, len(job.places)] + job.places

    def jo_free(self, i):
        if i not in self.machines:
            return [FORM_OF_A_NUMBER, NOT_THERE]
        room = self.machines[i].has
        for job in self.jobs.values():
            room = room_beside(room, job, job.places.count(i))
        return [FORM_OF_ROOM] + room

    # Both come in the order in which the jobs came, as the dict keeps it.
    def running(self, rank):
        return [j for j, job in self.jobs.items() if job.rank == rank and job.runs()]

    def waiting(self, rank):
        return [j for j, job in self.jobs.items() if job.rank == rank and not job.runs()]

    # The job fits into what's handed in as free, where all of lesser rank are put out: now some of these are spared.
    def place(self, job, free):
        put_out = []
        for j in self.running_below(job.rank):
            beside = free_beside(free, self.jobs[j])
            if places_for(job, self.machines, beside):
                free = beside
            else:
                put_out.append(j)
        for j in put_out:
            self.jobs[j].wait()
        job.run_on(places_for(job, self.machines, free))
        return sorted(put_out)

    def running_below(self, rank):
        numbers = []
        for lesser in range(rank - 1, -1, -1):
            numbers.extend(self.running(lesser))
        return numbers


# Machines and jobs come by the same rule: the same refusals in the same order, then how many there are.
def put_in(there, number, last, record):
    if number > last:
        return NOT_THERE
    if number in there:
        return THERE_ALREADY
    if not record.is_as_told():
        return NOT_AS_TOLD
    there[number] = record
    return len(there)


def answers(calls):
    yard = Yard()
    told = []
    start = 0
    while start < len(calls):
        call = calls[start]
        end = start + 1 + NUMBERS_BEHIND.get(call, 0)
        answer = answer_to(yard, call, calls[start + 1:end])
        told.append(len(answer))
        told.extend(answer)
        start = end
    return told


# Three calls tell more than a number, or may: they say the form of what they answer themselves.
def answer_to(yard, call, numbers):
    if call == JO_TURN:
        return yard.jo_turn()
    if call == JO_WHERE:
        return yard.jo_where(numbers[0])
    if call == JO_FREE:
        return yard.jo_free(numbers[0])
    return [FORM_OF_A_NUMBER, answered_number(yard, call, numbers)]


def answered_number(yard, call, numbers):
    if call == JO_START:
        return yard.jo_start()
    if call == JO_MACHINE:
        return yard.jo_machine(numbers[0], Machine(numbers[1:]))
    if call == JO_DOWN:
        return yard.jo_down(numbers[0])
    if call == JO_JOB:
        return yard.jo_job(numbers[0], Job(numbers[1:]))
    if call == JO_END:
        return yard.jo_end(numbers[0])
    raise UnknownCall(f"no call has the number {call}")
