"""The calls, read from one list of whole numbers and answered into another."""

from colouredcores.plant import COLOURS, Plant

NO_SUCH = -2
NOT_BEGUN = -11
NOT_AS_TOLD = -22
FULL = -28
NONE_THERE = -33

MOST_WASTED = 1000
MOST_METRES = 5000
MOST_JOBS = 6

BEGIN = 0

# By a call's number: how many numbers stand behind it. All calls are here, those
# without a handler too, as each has to be passed over where nothing has begun.
ARGUMENTS = (0, 3, 3, 1, 1, 0, 0, 6, 1, 1, 0, 2, 0, 2, 1, 2, 2, 2, 1, 1, 0)


def answer_waste(plant, numbers):
    a = numbers[0]
    b = numbers[1]
    n = numbers[2]
    if a >= COLOURS or b >= COLOURS or a == b or n > MOST_WASTED:
        return [NOT_AS_TOLD]
    before = plant.between[a][b]
    plant.between[a][b] = n
    return [before]


def answer_job(plant, numbers):
    colour = numbers[0]
    metres = numbers[1]
    piece = numbers[2]
    if colour >= COLOURS or not 1 <= metres <= MOST_METRES or not 1 <= piece <= metres:
        return [NOT_AS_TOLD]
    if len(plant.jobs) >= MOST_JOBS:
        return [FULL]
    plant.jobs.append((colour, metres, piece))
    return [len(plant.jobs) - 1]


def answer_drop(plant, numbers):
    j = numbers[0]
    if not plant.has_job(j):
        return [NO_SUCH]
    plant.jobs.pop(j)
    return [len(plant.jobs)]


def answer_run(plant, numbers):
    j = numbers[0]
    if not plant.has_job(j):
        return [NO_SUCH]
    waste = plant.run_job(j)
    return [len(plant.cores) - 1, waste]


def answer_best(plant, numbers):
    return [0, plant.least()]


def answer_order(plant, numbers):
    order = plant.best_jobs()
    return [len(order)] + order


def answer_attempt(plant, numbers):
    count = len(plant.jobs)
    order = numbers[:count]
    if sorted(order) != list(range(count)):
        return [NOT_AS_TOLD]
    return [0, plant.waste_in(order)]


def answer_would(plant, numbers):
    colour = numbers[0]
    if colour >= COLOURS:
        return [NOT_AS_TOLD]
    if len(plant.jobs) >= MOST_JOBS:
        return [FULL]
    return [0, plant.least_of(plant.job_colours() + [colour]) - plant.least()]


def answer_saves(plant, numbers):
    j = numbers[0]
    if not plant.has_job(j):
        return [NO_SUCH]
    colours = plant.job_colours()
    return [0, plant.least() - plant.least_of(colours[:j] + colours[j + 1:])]


def answer_next(plant, numbers):
    order = plant.best_jobs()
    if len(order) == 0:
        return [NONE_THERE]
    return [order[0]]


HANDLERS = {
    1: answer_waste,
    2: answer_job,
    3: answer_drop,
    4: answer_run,
    5: answer_best,
    6: answer_order,
    7: answer_attempt,
    8: answer_would,
    9: answer_saves,
    10: answer_next,
}


def answer_call(plant, number, numbers):
    if plant is None:
        return [NOT_BEGUN]
    if number not in HANDLERS:
        raise NotImplementedError(f"call {number} is not written yet")
    return HANDLERS[number](plant, numbers)


def answers(calls):
    plant = None
    given = []
    at = 0
    while at < len(calls):
        number = calls[at]
        end = at + 1 + ARGUMENTS[number]
        if number == BEGIN:
            plant = Plant()
            answer = [0]
        else:
            answer = answer_call(plant, number, calls[at + 1:end])
        given.append(len(answer))
        given.extend(answer)
        at = end
    return given
