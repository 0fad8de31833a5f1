"""Many lines against a second reading of the document, written another way, and against jobs that are really run."""

import random
import unittest

from lines import ask, begins, bring, drop, gone, look, put, tell, there, which


def key(question):
    """A question without its answer."""
    return tuple(question[:3] if question[0] == 0 else question[:4])


def said(question):
    """What an answer says of each file that it speaks of."""
    if question[0] == 0:
        return {question[2]: len(question) == 4}
    return {file: file in question[4:] for file in range(question[2], question[3] + 1)}


def trace_is_right(job, asked):
    if len(asked) > 12 or len({key(question) for question in asked}) < len(asked):
        return False
    known = {}
    for question in asked:
        area = question[1]
        if area > job:
            return False
        if question[0] == 1:
            files = question[4:]
            inside = set(range(question[2], question[3] + 1))
            if not inside or sorted(set(files)) != list(files) or not set(files) <= inside:
                return False
        for file, is_there in said(question).items():
            if known.setdefault((area, file), is_there) != is_there:
                return False
    return True


def written(run):
    """A run as one row: each question, then its answer; at last how it is over."""
    row = []
    for question in run["asked"]:
        row += [("asks", key(question)), ("hears", tuple(question[len(key(question)):]))]
    return row + [("is over", run["ended"], tuple(run["made"]))]


def clash(one, other):
    """The place at which two runs of one job contradict each other, or None."""
    for at, (left, right) in enumerate(zip(written(one), written(other))):
        if left != right:
            return None if left[0] == "hears" else at // 2
    return None


class Model:
    def __init__(self, jobs=1):
        self.jobs = jobs
        self.files = {}
        self.told = []

    def held(self, job):
        held = []
        for run in self.told:
            if run["job"] != job or any(clash(run, earlier) is not None for earlier in held):
                continue
            if all(written(run) != written(earlier) for earlier in held):
                held.append(run)
        return held

    def now(self, question):
        """The question as it would be handed over now, with its answer."""
        if question[0] == 0:
            content = self.files.get((question[1], question[2]))
            return key(question) + (() if content is None else (content,))
        inside = [file for area, file in self.files if area == question[1] and question[2] <= file <= question[3]]
        return key(question) + tuple(sorted(inside))

    def begins(self, jobs):
        if jobs not in range(1, 7):
            return [-1]
        self.__init__(jobs)
        return [0]

    def sources(self):
        return sum(area == 0 for area, file in self.files)

    def put(self, file, content):
        if (0, file) not in self.files and self.sources() == 30:
            return [-7]
        self.files[0, file] = content
        return [self.sources()]

    def drop(self, file):
        if self.files.pop((0, file), None) is None:
            return [-4]
        return [self.sources()]

    def tell(self, **run):
        files = list(run["made"][::2])
        for refusal, fits in (
                (-2, run["job"] >= self.jobs or run["ended"] not in (0, 1)),
                (-4, any(run["number"] == earlier["number"] for earlier in self.told)),
                (-5, len(run["made"]) % 2 or sorted(set(files)) != files or len(files) > 6),
                (-6, not trace_is_right(run["job"], run["asked"])),
                (-7, len(self.told) == 30)):
            if fits:
                return [refusal]
        held = self.held(run["job"])
        self.told.append(run)
        for earlier in held:
            if clash(run, earlier) is not None:
                return [2, earlier["number"], clash(run, earlier)]
        return [int(any(written(run) == written(earlier) for earlier in held))]

    def so_far(self, run):
        """How many first answers would be so now."""
        for place, question in enumerate(run["asked"]):
            if self.now(question) != tuple(question):
                return place
        return len(run["asked"])

    def look(self, job):
        if job >= self.jobs:
            return [-2]
        held = self.held(job)
        if not held:
            return [0, 0]
        best = max(held, key=self.so_far)
        place = self.so_far(best)
        if place == len(best["asked"]):
            return [1, best["number"], best["ended"], *best["made"]]
        asked = key(best["asked"][place])
        answer = self.now(asked)[len(asked):]
        return [0, place, *asked, len(answer), *answer]

    def bring(self, job):
        given = self.look(job)
        if given[0] == 0:
            return [-8]
        if given[0] == 1:
            for area, file in list(self.files):
                if area == job + 1:
                    self.files.pop((area, file))
            for file, content in zip(given[3::2], given[4::2]):
                self.files[job + 1, file] = content
        return given


def some_question(chance, job):
    area = chance.choice([0, 0, 0, chance.randrange(job + 1), chance.randrange(4)])
    if chance.random() < 0.6:
        file = chance.randrange(4)
        return chance.choice([gone(area, file), there(area, file, chance.randrange(2))])
    first = chance.randrange(4)
    last = chance.randrange(first, 5) if chance.random() < 0.9 else chance.randrange(4)
    files = [file for file in range(5) if chance.random() < 0.4]
    if chance.random() < 0.9:
        files = [file for file in files if first <= file <= last]
    elif chance.random() < 0.3:
        files.reverse()
    return which(area, first, last, *files)


def some_run(chance, model, number):
    job = chance.randrange(model.jobs) if chance.random() < 0.95 else 6
    asked = []
    if model.told and chance.random() < 0.7:
        like = chance.choice(model.told)
        job = like["job"]
        asked = list(like["asked"])[:chance.randrange(len(like["asked"]) + 2)]
    for turn in range(chance.choice([0, 0, 1, 1, 2, 3])):
        asked.append(some_question(chance, job))
    if chance.random() < 0.7:
        asked = [list(model.now(question)) if question[1] <= job else question for question in asked]
    made = [number for file in range(3) if chance.random() < 0.5 for number in (file, chance.randrange(2))]
    if chance.random() < 0.05:
        made = made[1:]
    return {"number": number, "job": job, "machine": 0, "ended": int(chance.random() < 0.2) + (chance.random() < 0.02),
            "made": made, "asked": asked}


def some_line(chance):
    """The calls of a line, and what the model answers to them."""
    model = Model()
    calls = []
    expected = []
    for turn in range(60):
        drawn = chance.random()
        if turn == 0 or drawn < 0.01:
            jobs = chance.choice([0, 1, 1, 2, 3, 3, 6, 7])
            calls.append(begins(jobs))
            expected.append(model.begins(jobs))
        elif drawn < 0.2:
            pair = (chance.randrange(4), chance.randrange(2))
            calls.append(put(*pair))
            expected.append(model.put(*pair))
        elif drawn < 0.28:
            file = chance.randrange(4)
            calls.append(drop(file))
            expected.append(model.drop(file))
        elif drawn < 0.65:
            run = some_run(chance, model, chance.randrange(200))
            calls.append(tell(**run))
            expected.append(model.tell(**run))
        else:
            job = chance.randrange(model.jobs + (chance.random() < 0.1))
            name = chance.choice([(look, model.look), (bring, model.bring)])
            calls.append(name[0](job))
            expected.append(name[1](job))
    return calls, expected


class AgainstTheModel(unittest.TestCase):
    def test_many_lines(self):
        chance = random.Random(20)
        seen = {}
        for turn in range(600):
            calls, expected = some_line(chance)
            self.assertEqual(ask(*calls), expected)
            for call, answer in zip(calls, expected):
                seen[call[0], min(answer[0], 2)] = seen.get((call[0], min(answer[0], 2)), 0) + 1
        # The lines are worth something only if all that can be answered is answered often.
        for call, first in ((0, -1), (2, -4), (3, -2), (3, -4), (3, -5), (3, -6), (3, 0), (3, 1), (3, 2),
                            (4, -2), (4, 0), (4, 1), (5, -2), (5, -8), (5, 1)):
            self.assertGreater(seen.get((call, first), 0), 20, (call, first))


class ReallyRun(unittest.TestCase):
    """What's found is what the job would do now, whatever it does."""

    def job(self, seed, files):
        """A job that asks by what it heard: its trace, how it ended, what it made."""
        asked = []
        chance = random.Random(seed)
        while len(asked) < 5 and chance.random() < 0.8:
            if chance.random() < 0.6:
                file = chance.randrange(5)
                question = there(0, file, files[file]) if file in files else gone(0, file)
            else:
                first = chance.randrange(5)
                last = chance.randrange(first, 5)
                question = which(0, first, last, *[file for file in sorted(files) if first <= file <= last])
            if key(question) in [key(earlier) for earlier in asked]:
                break
            asked.append(question)
            chance = random.Random(f"{seed} {asked}")
        return {"asked": asked, "ended": chance.randrange(2), "made": [chance.randrange(9), chance.randrange(9)]}

    def test_it(self):
        chance = random.Random(5)
        counted = {0: 0, 1: 0}
        for seed in range(300):
            files = {}
            calls = []
            expected = []
            for number in range(14):
                file = chance.randrange(5)
                if file in files and chance.random() < 0.4:
                    files.pop(file)
                    calls.append(drop(file))
                else:
                    files[file] = chance.randrange(2)
                    calls.append(put(file, files[file]))
                run = self.job(seed, files)
                calls += [look(0), tell(number, **run), look(0)]
                expected.append([run["ended"], *run["made"]])
            given = ask(*calls)
            for number in range(14):
                before, told, behind = given[4 * number + 1:4 * number + 4]
                self.assertEqual(told, [before[0]])
                self.assertEqual(behind[:1] + behind[2:], [1] + expected[number])
                if before[0] == 1:
                    self.assertEqual(before, behind)
                counted[before[0]] += 1
        self.assertGreater(min(counted.values()), 500)


if __name__ == "__main__":
    unittest.main()
