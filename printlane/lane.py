"""The lane: the owners' budgets, the row of jobs, and the press that prints them."""

from printlane.errors import Broke, NoJob, NoOwner, NoPages
from printlane.rests import ticked


class Job:
    def __init__(self, number, owner, pages):
        self.number = number
        self.owner = owner
        self.pages = pages
        self.printed = 0

    def left(self):
        return self.pages - self.printed


class Lane:
    def __init__(self, limit, pause, budgets):
        self.limit = limit
        self.pause = pause
        self.budgets = list(budgets)
        # Jobs leave the row, so what they printed is kept by owner.
        self.printed = [0] * len(budgets)
        self.row = []
        self.sent = 0
        self.hot = 0
        self.resting = 0

    def send(self, owner, pages):
        self.check_owner(owner)
        if pages < 1:
            raise NoPages("a job has at least one page")
        if pages > self.budgets[owner]:
            raise Broke("the budget has not so many pages")
        job = Job(self.sent, owner, pages)
        self.sent += 1
        self.budgets[owner] -= pages
        self.row.append(job)
        return job.number

    def stop(self, job):
        stopped = self.row.pop(self.place(job))
        self.budgets[stopped.owner] += stopped.left()
        return stopped.left()

    def run(self, many):
        return len([tick for tick in self.ticks(many) if tick[0] == "page"])

    def grant(self, owner, many):
        self.check_owner(owner)
        self.budgets[owner] += many

    def ticks(self, many):
        told = []
        while len(told) < many:
            told.append(self.tick())
        return told

    def tallies(self):
        waiting = [0] * len(self.budgets)
        for job in self.row:
            waiting[job.owner] += job.left()
        return list(zip(self.budgets, self.printed, waiting))

    def check_owner(self, owner):
        # An index below nought would count from the end of the list and find another owner.
        if owner < 0 or owner >= len(self.budgets):
            raise NoOwner("there is no such owner")

    def place(self, number):
        for spot, job in enumerate(self.row):
            if job.number == number:
                return spot
        raise NoJob("no job with that number waits")

    def tick(self):
        behind = ticked(self.limit, self.pause, self.hot, self.resting, len(self.row) > 0)
        self.hot = behind[1]
        self.resting = behind[2]
        if behind[0] == "page":
            return self.print_page()
        return (behind[0],)

    def print_page(self):
        job = self.row[0]
        job.printed += 1
        self.printed[job.owner] += 1
        if job.left() == 0:
            self.row.pop(0)
        return ("page", job.number, job.printed)
