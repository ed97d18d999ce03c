"""What there is from a begin on: the wasted metres, the colour now, jobs and cores."""

from colouredcores.cores import Core
from colouredcores.orders import best_order, change_waste, least_waste, order_waste
from colouredcores.ways import cheaper_over_others, least_ways

COLOURS = 6


class Plant:
    def __init__(self):
        self.between = [[0] * COLOURS for colour in range(COLOURS)]
        self.colour = None
        self.jobs = []
        self.cores = []
        self.wasted = 0

    def job_colours(self):
        return [job[0] for job in self.jobs]

    def has_job(self, j):
        return j < len(self.jobs)

    def has_core(self, c):
        return c < len(self.cores)

    def run_job(self, j):
        job = self.jobs.pop(j)
        waste = change_waste(self.between, self.colour, job[0])
        self.wasted += waste
        self.cores.append(Core(job[0], job[1]))
        self.colour = job[0]
        return waste

    def best_jobs(self):
        return best_order(self.between, self.colour, self.job_colours())

    def waste_in(self, order):
        return order_waste(self.between, self.colour, self.job_colours(), order)

    def least(self):
        return self.least_of(self.job_colours())

    def least_of(self, colours):
        return least_waste(self.between, self.colour, colours)

    def least_between(self, a, b):
        return least_ways(self.between)[a][b]

    def detour_pairs(self):
        return cheaper_over_others(self.between)

    def pieces_of(self, colour):
        lengths = []
        for core in self.cores:
            if core.colour == colour:
                lengths.extend(core.pieces())
        return lengths
