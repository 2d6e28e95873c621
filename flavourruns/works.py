"""What is kept between the calls: flavours, changes, jobs, what was run, the minute and what is on the line."""


class Job:

    def __init__(self, flavour, minutes, due):
        self.flavour = flavour
        self.minutes = minutes
        self.due = due

    def lateness(self, end):
        return max(0, end - self.due)


class Run:

    def __init__(self, number, change_took, end, late):
        self.number = number
        self.change_took = change_took
        self.end = end
        self.late = late


class Works:

    def __init__(self):
        # No flavours stand for: not begun.
        self.restart(0)

    def restart(self, flavours):
        self.flavours = flavours
        self.changes = [[0] * flavours for flavour in range(flavours)]
        self.jobs = []
        # Numbers only ever rise, so the open jobs stay in rising order.
        self.to_run = []
        self.runs = []
        self.waited = 0
        self.minute = 0
        self.loaded = None

    def has_begun(self):
        return self.flavours > 0

    def has_flavour(self, flavour):
        return flavour < self.flavours

    def has_job(self, number):
        return number < len(self.jobs)

    def is_open(self, number):
        return number in self.to_run

    def open_jobs(self):
        jobs = {}
        for number in self.to_run:
            jobs[number] = self.jobs[number]
        return jobs

    def change_minutes(self, loaded, flavour):
        # Nothing has to be changed on a line with nothing on it.
        if loaded is None:
            return 0
        return self.changes[loaded][flavour]

    def change_if_next(self, number):
        return self.change_minutes(self.loaded, self.jobs[number].flavour)

    def end_if_next(self, number):
        return self.minute + self.change_if_next(number) + self.jobs[number].minutes

    def late_if_next(self, number):
        return self.jobs[number].lateness(self.end_if_next(number))
