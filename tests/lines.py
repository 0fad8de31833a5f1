"""What the tests share: calls written as they are handed in, and answers taken apart call by call."""

from skipruns.house import answers

TOP = 4294967295


def begins(jobs):
    return [0, 1, jobs, 0]


def put(file, content):
    return [1, 2, file, content, 0]


def drop(file):
    return [2, 1, file, 0]


def tell(number, job=0, machine=0, ended=0, made=(), asked=()):
    line = [3, 4, number, job, machine, ended, 1 + len(asked), len(made), *made]
    for question in asked:
        line += [len(question), *question]
    return line


def look(job):
    return [4, 1, job, 0]


def bring(job):
    return [5, 1, job, 0]


def nearest(job):
    return [6, 1, job, 0]


def plan():
    return [7, 0, 0]


def distrust(machine):
    return [8, 1, machine, 0]


def held():
    return [9, 0, 0]


def files(area):
    return [10, 1, area, 0]


def state(jobs):
    """Calls that change nothing and tell all that can be seen of a house with so many jobs."""
    seen = [held(), plan()] + [files(area) for area in range(jobs + 2)]
    for job in range(jobs):
        seen += [look(job), nearest(job)]
    return seen


def gone(area, file):
    return [0, area, file]


def there(area, file, content):
    return [0, area, file, content]


def which(area, first, last, *files):
    return [1, area, first, last, *files]


def split(given):
    """Takes what is given back apart: one list for each call."""
    parts = []
    at = 0
    while at < len(given):
        size = given[at]
        part = given[at + 1:at + 1 + size]
        if size < 1 or len(part) != size:
            raise AssertionError(f"a count that doesn't fit at {at}: {given}")
        parts.append(part)
        at += 1 + size
    return parts


def ask(*calls):
    """Hands the calls in as one line and gives a list of answers back, one for each call."""
    if not 1 <= len(calls) <= 60:
        raise AssertionError(f"a line has 1 to 60 calls, not {len(calls)}")
    parts = split(answers([number for call in calls for number in call]))
    if len(parts) != len(calls):
        raise AssertionError(f"{len(calls)} calls, {len(parts)} answers")
    return parts


def last(*calls):
    return ask(*calls)[-1]
