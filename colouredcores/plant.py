"""What there is from a begin on: the wasted metres, the colour now, jobs and cores."""

from colouredcores.orders import best_order, change_waste, least_waste, order_waste

COLOURS = 6


class Plant:
    def __init__(self):
        self.between = [[0] * COLOURS for colour in range(COLOURS)]
        self.colour = None
        self.jobs = []
        self.cores = []
        self.wasted = 0

    def job_colours(self):
        return [job[0] for job in self.jobs]

    def has_job(self, j):
        return j < len(self.jobs)

    def run_job(self, j):
        job = self.jobs.pop(j)
        waste = change_waste(self.between, self.colour, job[0])
        self.wasted += waste
        self.cores.append((job[0], job[1]))
        self.colour = job[0]
        return waste

    def best_jobs(self):
        return best_order(self.between, self.colour, self.job_colours())

    def waste_in(self, order):
        return order_waste(self.between, self.colour, self.job_colours(), order)

    def least(self):
        return self.least_of(self.job_colours())

    def least_of(self, colours):
        return least_waste(self.between, self.colour, colours)
