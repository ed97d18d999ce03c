"""The calls, read from one list of whole numbers and answered into another."""

from colouredcores.cores import how_many, longest_cut
from colouredcores.plant import COLOURS, Plant

NO_SUCH = -2
NOT_BEGUN = -11
SPARKED_THERE = -17
NOT_AS_TOLD = -22
FULL = -28
NONE_THERE = -33

MOST_WASTED = 1000
MOST_METRES = 5000
MOST_JOBS = 6
MOST_SPARKS = 8

BEGIN = 0

# By a call's number: how many numbers stand behind it.
ARGUMENTS = (0, 3, 3, 1, 1, 0, 0, 6, 1, 1, 0, 2, 0, 2, 1, 2, 2, 2, 1, 1, 0)


def answer_waste(plant, numbers):
    a = numbers[0]
    b = numbers[1]
    n = numbers[2]
    if a >= COLOURS or b >= COLOURS or a == b or n > MOST_WASTED:
        return [NOT_AS_TOLD]
    before = plant.between[a][b]
    plant.between[a][b] = n
    return [before]


def answer_job(plant, numbers):
    colour = numbers[0]
    metres = numbers[1]
    piece = numbers[2]
    if colour >= COLOURS or not 1 <= metres <= MOST_METRES or not 1 <= piece <= metres:
        return [NOT_AS_TOLD]
    if len(plant.jobs) >= MOST_JOBS:
        return [FULL]
    plant.jobs.append((colour, metres, piece))
    return [len(plant.jobs) - 1]


def answer_drop(plant, numbers):
    j = numbers[0]
    if not plant.has_job(j):
        return [NO_SUCH]
    plant.jobs.pop(j)
    return [len(plant.jobs)]


def answer_run(plant, numbers):
    j = numbers[0]
    if not plant.has_job(j):
        return [NO_SUCH]
    waste = plant.run_job(j)
    return [len(plant.cores) - 1, waste]


def answer_best(plant, numbers):
    return [0, plant.least()]


def answer_order(plant, numbers):
    order = plant.best_jobs()
    return [len(order)] + order


def answer_attempt(plant, numbers):
    count = len(plant.jobs)
    order = numbers[:count]
    if sorted(order) != list(range(count)):
        return [NOT_AS_TOLD]
    return [0, plant.waste_in(order)]


def answer_would(plant, numbers):
    colour = numbers[0]
    if colour >= COLOURS:
        return [NOT_AS_TOLD]
    if len(plant.jobs) >= MOST_JOBS:
        return [FULL]
    return [0, plant.least_of(plant.job_colours() + [colour]) - plant.least()]


def answer_saves(plant, numbers):
    j = numbers[0]
    if not plant.has_job(j):
        return [NO_SUCH]
    colours = plant.job_colours()
    return [0, plant.least() - plant.least_of(colours[:j] + colours[j + 1:])]


def answer_next(plant, numbers):
    order = plant.best_jobs()
    if len(order) == 0:
        return [NONE_THERE]
    return [order[0]]


def answer_by(plant, numbers):
    a = numbers[0]
    b = numbers[1]
    if a >= COLOURS or b >= COLOURS:
        return [NOT_AS_TOLD]
    return [plant.least_between(a, b)]


def answer_detours(plant, numbers):
    pairs = plant.detour_pairs()
    answer = [len(pairs)]
    for pair in pairs:
        answer.extend(pair)
    return answer


def answer_spark(plant, numbers):
    c = numbers[0]
    p = numbers[1]
    if not plant.has_core(c):
        return [NO_SUCH]
    core = plant.cores[c]
    if p >= core.metres:
        return [NOT_AS_TOLD]
    if p in core.sparks:
        return [SPARKED_THERE]
    if len(core.sparks) >= MOST_SPARKS:
        return [FULL]
    core.spark_at(p)
    return [len(core.sparks)]


def answer_pieces(plant, numbers):
    c = numbers[0]
    if not plant.has_core(c):
        return [NO_SUCH]
    lengths = plant.cores[c].pieces()
    return [len(lengths)] + lengths


def answer_good(plant, numbers):
    c = numbers[0]
    n = numbers[1]
    if not plant.has_core(c):
        return [NO_SUCH]
    if n == 0:
        return [NOT_AS_TOLD]
    return [how_many(plant.cores[c].pieces(), n)]


def answer_stock(plant, numbers):
    colour = numbers[0]
    n = numbers[1]
    if colour >= COLOURS or n == 0:
        return [NOT_AS_TOLD]
    return [how_many(plant.pieces_of(colour), n)]


def answer_longest(plant, numbers):
    colour = numbers[0]
    k = numbers[1]
    if colour >= COLOURS or k == 0:
        return [NOT_AS_TOLD]
    lengths = plant.pieces_of(colour)
    if how_many(lengths, 1) < k:
        return [NONE_THERE]
    return [longest_cut(lengths, k)]


def answer_core(plant, numbers):
    c = numbers[0]
    if not plant.has_core(c):
        return [NO_SUCH]
    core = plant.cores[c]
    return [core.colour, core.metres] + core.sparks


def answer_look(plant, numbers):
    j = numbers[0]
    if not plant.has_job(j):
        return [NO_SUCH]
    return list(plant.jobs[j])


def answer_sums(plant, numbers):
    now = 0 if plant.colour is None else plant.colour + 1
    return [len(plant.jobs), len(plant.cores), plant.wasted, now]


HANDLERS = {
    1: answer_waste,
    2: answer_job,
    3: answer_drop,
    4: answer_run,
    5: answer_best,
    6: answer_order,
    7: answer_attempt,
    8: answer_would,
    9: answer_saves,
    10: answer_next,
    11: answer_by,
    12: answer_detours,
    13: answer_spark,
    14: answer_pieces,
    15: answer_good,
    16: answer_stock,
    17: answer_longest,
    18: answer_core,
    19: answer_look,
    20: answer_sums,
}


def answer_call(plant, number, numbers):
    if plant is None:
        return [NOT_BEGUN]
    return HANDLERS[number](plant, numbers)


def answers(calls):
    plant = None
    given = []
    at = 0
    while at < len(calls):
        number = calls[at]
        end = at + 1 + ARGUMENTS[number]
        if number == BEGIN:
            plant = Plant()
            answer = [0]
        else:
            answer = answer_call(plant, number, calls[at + 1:end])
        given.append(len(answer))
        given.extend(answer)
        at = end
    return given
