"""The house: its files, the runs that are told of it, and the calls on it."""

from skipruns.plan import make_plan
from skipruns.runs import Run, answer_now, are_same, contradiction, counted
from skipruns.runs import is_made_right, is_trace_right, made_files, wrong_places

BEGINS = 0
PUT = 1
DROP = 2
TELL = 3
LOOK = 4
BRING = 5
NEAREST = 6
PLAN = 7
DISTRUST = 8
HELD = 9
FILES = 10

MOST_JOBS = 6
MOST_SOURCES = 30
MOST_TOLD = 30

WRONG_JOBS = -1
NO_SUCH_JOB = -2
NO_SUCH_AREA = -2
WRONG_JOB_OR_END = -2
NOT_TRUSTED = -3
NO_SUCH_SOURCE = -4
NUMBER_TAKEN = -4
DISTRUSTED_ALREADY = -4
WRONG_MADE = -5
WRONG_TRACE = -6
FULL = -7
NOT_FOUND = -8
NONE_HELD = -8

IS_HELD = 0
IS_KNOWN = 1
CONTRADICTS = 2


class NoSuchCall(ValueError):
    pass


class House:
    def __init__(self):
        self.make_new(1)

    def make_new(self, jobs):
        self.jobs = jobs
        self.areas = [{}] + empty_areas(jobs)
        self.told_runs = []
        self.held_runs = []
        self.distrusted = {}

    def begins(self, jobs):
        if jobs < 1 or jobs > MOST_JOBS:
            return [WRONG_JOBS]
        self.make_new(jobs)
        return [0]

    def put(self, file, content):
        sources = self.areas[0]
        if file not in sources and len(sources) >= MOST_SOURCES:
            return [FULL]
        sources[file] = content
        return [len(sources)]

    def drop(self, file):
        sources = self.areas[0]
        if file not in sources:
            return [NO_SUCH_SOURCE]
        sources.pop(file)
        return [len(sources)]

    def tell(self, run):
        refusal = self.refusal_of(run)
        if refusal is not None:
            return [refusal]
        judged = judge(self.held_runs, run)
        # Told in any case: its number is taken, and it counts, whether it's held to be so or not.
        self.told_runs.append(run)
        if judged[0] == IS_HELD:
            self.held_runs.append(run)
        return judged

    def refusal_of(self, run):
        if run.job >= self.jobs or run.ended > 1:
            return WRONG_JOB_OR_END
        if run.machine in self.distrusted:
            return NOT_TRUSTED
        if run.number in [told.number for told in self.told_runs]:
            return NUMBER_TAKEN
        if not is_made_right(run.made):
            return WRONG_MADE
        if not is_trace_right(run.job, run.trace):
            return WRONG_TRACE
        if len(self.told_runs) >= MOST_TOLD:
            return FULL
        return None

    def look(self, job):
        if job >= self.jobs:
            return [NO_SUCH_JOB]
        run = self.found_run(job)
        if run is None:
            return self.how_far(job)
        return found_answer(run)

    def bring(self, job):
        if job >= self.jobs:
            return [NO_SUCH_JOB]
        run = self.found_run(job)
        if run is None:
            return [NOT_FOUND]
        self.areas[job + 1] = made_files(run.made)
        return found_answer(run)

    def nearest(self, job):
        if job >= self.jobs:
            return [NO_SUCH_JOB]
        runs = self.held_of(job)
        if len(runs) == 0:
            return [NONE_HELD]
        # Of several that are as near, min gives the first.
        run = min(runs, key=lambda each: len(wrong_places(self.areas, each)))
        places = wrong_places(self.areas, run)
        return [len(places), run.number] + places

    def plan(self):
        return make_plan(self.jobs, self.areas[0], self.held_runs)

    def distrust(self, machine):
        if machine in self.distrusted:
            return [DISTRUSTED_ALREADY]
        self.distrusted[machine] = True
        self.told_runs = [run for run in self.told_runs if run.machine != machine]
        # Anew from all that's left: what a forgotten run kept from being held may be held now.
        self.held_runs = held_among(self.told_runs)
        self.areas = [self.areas[0]] + empty_areas(self.jobs)
        return counted(self.held_numbers())

    def held(self):
        return [len(self.told_runs)] + self.held_numbers()

    def files(self, area):
        if area > self.jobs:
            return [NO_SUCH_AREA]
        contents = self.areas[area]
        given = [len(contents)]
        for file in sorted(contents):
            given.extend([file, contents[file]])
        return given

    def held_numbers(self):
        return [run.number for run in self.held_runs]

    def held_of(self, job):
        return [run for run in self.held_runs if run.job == job]

    def found_run(self, job):
        for run in self.held_of(job):
            if len(wrong_places(self.areas, run)) == 0:
                return run
        return None

    # Only for a job that isn't found. Then no run that came so far is over there (it would be found),
    # and all of them ask the same there (else they would contradict each other).
    def how_far(self, job):
        runs = self.held_of(job)
        if len(runs) == 0:
            return [0, 0]
        place = 0
        while True:
            question = runs[0].trace[place].question
            now = answer_now(self.areas, question)
            runs = [run for run in runs if run.trace[place].answer == now]
            if len(runs) == 0:
                return [0, place] + question + now
            place += 1


def empty_areas(jobs):
    return [{} for job in range(jobs)]


def found_answer(run):
    return [1, run.number, run.ended] + run.made


def judge(held_runs, run):
    for held in held_runs:
        if are_same(held, run):
            return [IS_KNOWN]
        place = contradiction(held, run)
        if place is not None:
            return [CONTRADICTS, held.number, place]
    return [IS_HELD]


def held_among(told_runs):
    held_runs = []
    for run in told_runs:
        if judge(held_runs, run)[0] == IS_HELD:
            held_runs.append(run)
    return held_runs


def answer_call(house, call, numbers, lists):
    if call == BEGINS:
        return house.begins(numbers[0])
    if call == PUT:
        return house.put(numbers[0], numbers[1])
    if call == DROP:
        return house.drop(numbers[0])
    if call == TELL:
        return house.tell(Run(numbers, lists[0], lists[1:]))
    if call == LOOK:
        return house.look(numbers[0])
    if call == BRING:
        return house.bring(numbers[0])
    if call == NEAREST:
        return house.nearest(numbers[0])
    if call == PLAN:
        return house.plan()
    if call == DISTRUST:
        return house.distrust(numbers[0])
    if call == HELD:
        return house.held()
    if call == FILES:
        return house.files(numbers[0])
    raise NoSuchCall(f"no such call: {call}")


def numbers_at(calls, at):
    return calls[at + 1:at + 1 + calls[at]]


def lists_at(calls, at):
    lists = []
    start = at + 1
    while len(lists) < calls[at]:
        numbers = numbers_at(calls, start)
        lists.append(numbers)
        start += 1 + len(numbers)
    return lists


def answers(calls):
    house = House()
    given = []
    at = 0
    while at < len(calls):
        numbers = numbers_at(calls, at + 1)
        behind = at + 2 + len(numbers)
        lists = lists_at(calls, behind)
        given.extend(counted(answer_call(house, calls[at], numbers, lists)))
        at = behind + 1 + sum([1 + len(each) for each in lists])
    return given
