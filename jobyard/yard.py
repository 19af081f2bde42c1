"""A yard of machines and jobs, and its calls in numbers."""

from jobyard.records import Job, Machine

LAST_MACHINE = 63
LAST_JOB = 127

NOT_THERE = -2
THERE_ALREADY = -17
NOT_AS_TOLD = -22

JO_START = 0
JO_MACHINE = 1
JO_DOWN = 2
JO_JOB = 3

# Tells where the next call begins: how many numbers stand behind a call's own number.
NUMBERS_BEHIND = {0: 0, 1: 8, 2: 1, 3: 11}

FORM_OF_A_NUMBER = 0


class UnknownCall(ValueError):
    pass


class Yard:
    def __init__(self):
        self.machines = {}
        # A dict keeps the order in which its keys came, and so the order in which the jobs came.
        self.jobs = {}

    def jo_start(self):
        self.machines = {}
        self.jobs = {}
        return 0

    def jo_machine(self, i, machine):
        return put_in(self.machines, i, LAST_MACHINE, machine)

    def jo_down(self, i):
        if i not in self.machines:
            return NOT_THERE
        stopped = [job for job in self.jobs.values() if job.has_copy_on(i)]
        for job in stopped:
            job.wait()
        self.machines.pop(i)
        return len(stopped)

    def jo_job(self, j, job):
        return put_in(self.jobs, j, LAST_JOB, job)


# Machines and jobs come by the same rule: the same refusals in the same order, then how many there are.
def put_in(there, number, last, record):
    if number > last:
        return NOT_THERE
    if number in there:
        return THERE_ALREADY
    if not record.is_as_told():
        return NOT_AS_TOLD
    there[number] = record
    return len(there)


def answers(calls):
    yard = Yard()
    told = []
    start = 0
    while start < len(calls):
        call = calls[start]
        end = start + 1 + NUMBERS_BEHIND.get(call, 0)
        answer = [FORM_OF_A_NUMBER, answered_number(yard, call, calls[start + 1:end])]
        told.append(len(answer))
        told.extend(answer)
        start = end
    return told


def answered_number(yard, call, numbers):
    if call == JO_START:
        return yard.jo_start()
    if call == JO_MACHINE:
        return yard.jo_machine(numbers[0], Machine(numbers[1:]))
    if call == JO_DOWN:
        return yard.jo_down(numbers[0])
    if call == JO_JOB:
        return yard.jo_job(numbers[0], Job(numbers[1:]))
    raise UnknownCall(f"no call has the number {call}")
