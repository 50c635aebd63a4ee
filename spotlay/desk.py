"""The desk: rows of words, answered with texts."""

from spotlay.bounds import bound
from spotlay.errors import NoRow
from spotlay.hubs import hub
from spotlay.jobs import MOST_WORKS
from spotlay.keeper import Keeper
from spotlay.least import least
from spotlay.lines import line
from spotlay.means import mean
from spotlay.texts import is_number_word, show_job


def joined(numbers):
    """Tell numbers as a text, parted by single blanks."""
    return " ".join([str(number) for number in numbers])


def put_flow(keeper, numbers):
    one, other, number = numbers
    keeper.flow(one, other, number)
    return "ok"


def put_way(keeper, numbers):
    one, other, number = numbers
    keeper.way(one, other, number)
    return "ok"


def put_cost(keeper, numbers):
    work, place, number = numbers
    keeper.charge(work, place, number)
    return "ok"


def do_swap(keeper, numbers):
    one, other = numbers
    keeper.swap(one, other)
    return "ok"


def go_back(keeper, numbers):
    keeper.back()
    return "ok"


def do_better(keeper, numbers):
    step = keeper.better()
    return "still" if step is None else joined(step)


def tell_total(keeper, numbers):
    return str(keeper.cost())


def tell_laying(keeper, numbers):
    return joined(keeper.laying())


def all_free(keeper):
    """Tell the part in which all are free."""
    return (None,) * len(keeper.laying())


def tell_bound(keeper, numbers):
    return str(bound(keeper.job(), all_free(keeper)))


def tell_mean(keeper, numbers):
    over, under = mean(keeper.job(), all_free(keeper))
    return str(over) if under == 1 else f"{over}/{under}"


def tell_least(keeper, numbers):
    return str(least(keeper.job())[0])


def tell_line(keeper, numbers):
    spots = line(keeper.job())
    return "none" if spots is None else joined(spots)


def tell_hub(keeper, numbers):
    middle = hub(keeper.job())
    return "none" if middle is None else str(middle)


def tell_show(keeper, numbers):
    return show_job(keeper.job()).replace("\n", ",")


# What answers a row, by its first word; each is told the keeper and the numbers behind the word.
ANSWERS = {
    "flow": put_flow,
    "way": put_way,
    "cost": put_cost,
    "swap": do_swap,
    "back": go_back,
    "better": do_better,
    "total": tell_total,
    "laying": tell_laying,
    "bound": tell_bound,
    "mean": tell_mean,
    "least": tell_least,
    "line": tell_line,
    "hub": tell_hub,
    "show": tell_show,
}
# How many numbers stand behind a word, where any do.
COUNTS = {"job": 1, "flow": 3, "way": 3, "cost": 3, "swap": 2}


def read_words(row):
    """Tell the first word of a row and the list of numbers behind it."""
    if not isinstance(row, str):
        raise NoRow("this is no text")
    word, *rest = row.split(" ")
    if word != "job" and word not in ANSWERS:
        raise NoRow("no row begins so")
    if len(rest) != COUNTS.get(word, 0) or not all(is_number_word(one) for one in rest):
        raise NoRow("other words stand behind the first one")
    return word, [int(figures) for figures in rest]


def begun(many):
    """Tell a keeper of a job without flows, ways and costs, laid as 0, 1, .."""
    if not 1 <= many <= MOST_WORKS:
        raise NoRow("a job has from one to eight works")
    zeros = ((0,) * many,) * many
    return Keeper((zeros, zeros, zeros), tuple(range(many)))


class Desk:
    """A desk, at which no job stands till one is told."""

    def __init__(self):
        self.keeper = None

    def say(self, row):
        """Tell the answer to a row."""
        word, numbers = read_words(row)
        if word == "job":
            # A new keeper: no deed ahead of it is left to be undone.
            self.keeper = begun(numbers[0])
            return "ok"
        if self.keeper is None:
            raise NoRow("no job stands")
        action = ANSWERS[word]
        return action(self.keeper, numbers)
