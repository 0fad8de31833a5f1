"""The plan: which jobs are sure to be found, known before anything is run."""

from skipruns.runs import answer_now, made_files

MUST_BE_RUN = 0
SURE = 1
HANGS = 2


def is_about(known, step):
    return step.question[1] in known


def fits_known(known, run):
    about_known = [step for step in run.trace if is_about(known, step)]
    return all([answer_now(known, step.question) == step.answer for step in about_known])


def sure_run(known, fitting_runs):
    for run in fitting_runs:
        if all([is_about(known, step) for step in run.trace]):
            return run
    return None


# The areas of jobs, as they are in the house, are not asked for: what was brought before doesn't matter.
def make_plan(jobs, sources, held_runs):
    known = {0: sources}
    planned = [jobs]
    for job in range(jobs):
        fitting_runs = [run for run in held_runs if run.job == job and fits_known(known, run)]
        run = sure_run(known, fitting_runs)
        if run is not None:
            known[job + 1] = made_files(run.made)
            planned.extend([SURE, run.number])
        elif len(fitting_runs) > 0:
            planned.append(HANGS)
        else:
            planned.append(MUST_BE_RUN)
    return planned
