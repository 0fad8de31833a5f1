"""A told run: its questions and answers, when it is right, and when two runs contradict each other."""

FILE = 0

MOST_MADE = 6
MOST_QUESTIONS = 12


class Step:
    def __init__(self, asked):
        size = 3 if asked[0] == FILE else 4
        self.question = asked[:size]
        # Kept in the form of answer_now, so that then and now can be compared as they stand.
        self.answer = counted(asked[size:])


class Run:
    def __init__(self, numbers, made, questions):
        self.number = numbers[0]
        self.job = numbers[1]
        self.machine = numbers[2]
        self.ended = numbers[3]
        self.made = made
        self.trace = [Step(asked) for asked in questions]


def counted(numbers):
    return [len(numbers)] + numbers


def rises(numbers):
    for place in range(1, len(numbers)):
        if numbers[place - 1] >= numbers[place]:
            return False
    return True


def files_between(files, first, last):
    return [file for file in files if first <= file and file <= last]


def answer_now(areas, question):
    files = areas[question[1]]
    if question[0] != FILE:
        return counted(files_between(sorted(files), question[2], question[3]))
    if question[2] in files:
        return counted([files[question[2]]])
    return counted([])


# The places, from 0, of the answers that wouldn't be so now.
def wrong_places(areas, run):
    return [place for place, step in enumerate(run.trace) if answer_now(areas, step.question) != step.answer]


def is_made_right(made):
    return len(made) % 2 == 0 and len(made) <= 2 * MOST_MADE and rises(made[::2])


def made_files(made):
    files = {}
    for place in range(0, len(made), 2):
        files[made[place]] = made[place + 1]
    return files


def is_trace_right(job, trace):
    if len(trace) > MOST_QUESTIONS:
        return False
    if not all([is_step_right(job, step) for step in trace]):
        return False
    for place in range(len(trace)):
        if not all([can_be_together(step, trace[place]) for step in trace[:place]]):
            return False
    return True


def is_step_right(job, step):
    if step.question[1] > job:
        return False
    if step.question[0] == FILE:
        return True
    first = step.question[2]
    last = step.question[3]
    files = step.answer[1:]
    return first <= last and rises(files) and files_between(files, first, last) == files


def can_be_together(one, other):
    if one.question == other.question:
        return False
    if one.question[1] != other.question[1]:
        return True
    if one.question[0] == FILE and other.question[0] == FILE:
        return True
    if one.question[0] == FILE:
        return fits_listing(one, other)
    if other.question[0] == FILE:
        return fits_listing(other, one)
    return listings_agree(one, other)


def fits_listing(step, listing):
    file = step.question[2]
    if file < listing.question[2] or file > listing.question[3]:
        return True
    is_there = step.answer[0] == 1
    return is_there == (file in listing.answer[1:])


def listings_agree(one, other):
    # Where the two don't overlap, first is above last, and no file lies between.
    first = max(one.question[2], other.question[2])
    last = min(one.question[3], other.question[3])
    return files_between(one.answer[1:], first, last) == files_between(other.answer[1:], first, last)


# Gives the place back, or None where the two runs don't contradict each other.
def contradiction(one, other):
    if one.job != other.job:
        return None
    shorter = min(len(one.trace), len(other.trace))
    for place in range(shorter):
        if one.trace[place].question != other.trace[place].question:
            return place
        if one.trace[place].answer != other.trace[place].answer:
            return None
    if len(one.trace) != len(other.trace):
        return shorter
    if one.ended != other.ended or one.made != other.made:
        return shorter
    return None


def are_same(one, other):
    if one.job != other.job or one.ended != other.ended or one.made != other.made:
        return False
    if len(one.trace) != len(other.trace):
        return False
    for place in range(len(one.trace)):
        if one.trace[place].question != other.trace[place].question:
            return False
        if one.trace[place].answer != other.trace[place].answer:
            return False
    return True
