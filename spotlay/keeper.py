"""A laying kept while its job changes, deed by deed, and gone back."""

from spotlay.errors import NoJob, NoLaying, NoNumber, NoWork, Nothing
from spotlay.exchanges import best_exchange, exchanged, saved
from spotlay.jobs import MOST_COST, MOST_SENT, fixed, is_job, is_laying, is_number_up_to


def with_number(rows, one, other, number):
    """Tell the rows with a number in a row and column."""
    row = rows[one]
    return rows[:one] + (row[:other] + (number,) + row[other + 1:],) + rows[one + 1:]


def check_there(laying, one, other):
    """Refuse what is no work or place."""
    # There are as many places as works.
    most = len(laying) - 1
    if not is_number_up_to(one, most) or not is_number_up_to(other, most):
        raise NoWork("there is no such work or place")


def check_number(number, most):
    """Refuse what is no number that may stand there."""
    if not is_number_up_to(number, most):
        raise NoNumber("no such number may stand there")


def check_sent(laying, one, other, number):
    """Refuse what can't be put in flows or ways."""
    check_there(laying, one, other)
    if one == other:
        raise NoWork("nothing goes from one to itself")
    check_number(number, MOST_SENT)


class Keeper:
    """A job and one of its layings, as they stand behind all deeds that aren't undone."""

    def __init__(self, job, laying):
        if not is_job(job):
            raise NoJob("this is no job")
        if not is_laying(job, laying):
            raise NoLaying("this is no laying of the job")
        self.kept_job = job
        self.kept_laying = laying
        # What stood ahead of each deed; tuples, which no later deed can change.
        self.deeds = []

    def go_on(self, job, laying):
        """Do a deed: a job and a laying stand behind it."""
        self.deeds.append((self.kept_job, self.kept_laying))
        self.kept_job = job
        self.kept_laying = laying

    def flow(self, one, other, number):
        """Put a number in flows."""
        check_sent(self.kept_laying, one, other, number)
        flows, ways, costs = self.kept_job
        self.go_on((with_number(flows, one, other, number), ways, costs), self.kept_laying)

    def way(self, one, other, number):
        """Put a number in ways."""
        check_sent(self.kept_laying, one, other, number)
        flows, ways, costs = self.kept_job
        self.go_on((flows, with_number(ways, one, other, number), costs), self.kept_laying)

    def charge(self, work, place, number):
        """Put a number in costs."""
        check_there(self.kept_laying, work, place)
        check_number(number, MOST_COST)
        flows, ways, costs = self.kept_job
        self.go_on((flows, ways, with_number(costs, work, place, number)), self.kept_laying)

    def swap(self, one, other):
        """Exchange two works, perhaps one and the same."""
        check_there(self.kept_laying, one, other)
        self.go_on(self.kept_job, exchanged(self.kept_laying, one, other))

    def better(self):
        """Do the first exchange, as sorted, that saves the most, and tell it with what it saves, or None."""
        pair = best_exchange(self.kept_job, self.kept_laying)
        if pair is None:
            return None
        one, other = pair
        gain = saved(self.kept_job, self.kept_laying, one, other)
        self.swap(one, other)
        return one, other, gain

    def back(self):
        """Undo the last deed that isn't undone."""
        if not self.deeds:
            raise Nothing("no deed is left to be undone")
        self.kept_job, self.kept_laying = self.deeds.pop()

    def job(self):
        """Tell the job as it stands."""
        return self.kept_job

    def laying(self):
        """Tell the laying as it stands."""
        return self.kept_laying

    def cost(self):
        """Tell the cost of the laying as it stands."""
        # A laying is a part in which none is free.
        return fixed(self.kept_job, self.kept_laying)
