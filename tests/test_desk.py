import itertools
import random
import time
import unittest

from helper import (
    FAR, Kept, all_free, anything, assert_refused, empty_job, gone_through_least, greatest_job, mixed_job,
    written_cost,
)
from spotlay.bounds import bound
from spotlay.desk import Desk
from spotlay.errors import NoNumber, NoRow, NoWork, Nothing, TooMany
from spotlay.hubs import hub
from spotlay.least import least
from spotlay.lines import line
from spotlay.means import mean
from spotlay.texts import show_job

SQUARES = ("flow", "way", "cost")
MOST = (999, 999, 10 ** 6)
ASKED = ("total", "laying", "bound", "mean", "least", "line", "hub", "show")
ROWS = ("flow 0 1 5", "way 1 0 7", "cost 1 1 9", "swap 0 1", "back", "better") + ASKED


def spaced(numbers):
    return " ".join(map(str, numbers))


def said_answer(kept, word):
    """What the desk is to answer to a question, by the words of the document."""
    job = kept.job()
    if word == "total":
        return str(written_cost(job, kept.laying()))
    if word == "laying":
        return spaced(kept.laying())
    if word == "bound":
        return str(bound(job, all_free(job)))
    if word == "mean":
        over, under = mean(job, all_free(job))
        return str(over) if under == 1 else str(over) + "/" + str(under)
    if word == "least":
        return str(least(job)[0]) if len(job[0]) <= 6 else TooMany
    if word == "line":
        return "none" if line(job) is None else spaced(line(job))
    if word == "hub":
        return "none" if hub(job) is None else str(hub(job))
    return show_job(job).replace("\n", ",")


def laid_from_0(size):
    return Kept(empty_job(size), range(size))


def rows_of(job):
    """The rows that make a job, without its first one."""
    return show_job(job).split("\n")[1:]


class DeskTest(unittest.TestCase):
    def assert_says(self, desk, row, due):
        """The answer is just this text, or just this refusal."""
        if isinstance(due, str):
            told = desk.say(row)
            self.assertIs(type(told), str)
            self.assertEqual(told, due, row)
        else:
            assert_refused(self, due, desk.say, row)

    def assert_stands(self, desk, kept):
        for word in ("show", "laying", "total"):
            self.assert_says(desk, word, said_answer(kept, word))

    def undo_all(self, desk, kept):
        while kept.undone_by:
            kept.back()
            self.assert_says(desk, "back", "ok")
            self.assert_stands(desk, kept)
        self.assert_says(desk, "back", Nothing)

    def begun(self, job):
        """A desk at which the job stands, and the same kept in the test."""
        size = len(job[0])
        desk, kept = Desk(), laid_from_0(size)
        self.assert_says(desk, f"job {size}", "ok")
        for row in rows_of(job):
            self.do(desk, kept, row)
        return desk, kept

    def do(self, desk, kept, row):
        """One row that can be done, told to both."""
        word, *numbers = row.split(" ")
        numbers = [int(number) for number in numbers]
        if word in SQUARES:
            kept.put(SQUARES.index(word), *numbers)
            due = "ok"
        elif word == "swap":
            kept.swap(*numbers)
            due = "ok"
        elif word == "better":
            step = kept.better()
            due = "still" if step is None else spaced(step)
        elif word == "back":
            due = "ok" if kept.undone_by else Nothing
            if kept.undone_by:
                kept.back()
        else:
            due = said_answer(kept, word)
        self.assert_says(desk, row, due)


def drawn_row(kept, source):
    """A row that can be done."""
    size = len(kept.places)
    word = source.choice(SQUARES * 3 + ("swap", "swap", "better", "better", "back", "back") + ASKED)
    if word == "swap":
        return f"swap {source.randrange(size)} {source.randrange(size)}"
    if word not in SQUARES:
        return word
    at = SQUARES.index(word) if size > 1 else 2
    one, other = source.sample(range(size), 2) if at < 2 else (source.randrange(size), source.randrange(size))
    number = source.choice((0, MOST[at], source.randint(0, 3), source.randint(0, MOST[at])))
    return f"{SQUARES[at]} {one} {other} {number}"


class Answers(DeskTest):
    def test_by_hand(self):
        desk = Desk()
        for row, due in (
            ("job 2", "ok"), ("show", "works 2"), ("laying", "0 1"), ("total", "0"), ("line", "0 0"), ("hub", "0"),
            ("flow 0 1 3", "ok"), ("flow 1 0 5", "ok"), ("way 0 1 7", "ok"), ("way 1 0 11", "ok"), ("cost 0 0 1", "ok"),
            ("cost 0 1 2", "ok"), ("cost 1 0 4", "ok"), ("cost 1 1 8", "ok"), ("total", "85"), ("bound", "74"),
            ("mean", "159/2"), ("least", "74"), ("line", "none"), ("hub", "0"), ("better", "0 1 11"), ("laying", "1 0"),
            ("total", "74"), ("better", "still"), ("cost 1 0 1000000", "ok"), ("total", "1000070"),
            ("better", "0 1 999985"), ("back", "ok"), ("back", "ok"), ("back", "ok"), ("total", "85"),
            ("swap 1 0", "ok"), ("laying", "1 0"),
            ("show", "works 2,flow 0 1 3,flow 1 0 5,way 0 1 7,way 1 0 11,cost 0 0 1,cost 0 1 2,cost 1 0 4,cost 1 1 8"),
            ("job 3", "ok"), ("show", "works 3"), ("back", Nothing), ("mean", "0"), ("cost 2 1 1", "ok"),
            ("mean", "1/3"),
        ):
            self.assert_says(desk, row, due)

    def test_a_job_anew(self):
        for size, other in itertools.product(range(1, 9), repeat=2):
            desk = Desk()
            self.assert_says(desk, f"job {size}", "ok")
            self.assert_says(desk, f"cost {size - 1} 0 5", "ok")
            self.assert_says(desk, f"swap 0 {size - 1}", "ok")
            self.assert_says(desk, f"job {other}", "ok")
            self.assert_says(desk, "back", Nothing)
            self.assert_stands(desk, laid_from_0(other))
            self.assert_says(desk, "laying", spaced(range(other)))

    def test_each_question_of_drawn_jobs(self):
        for size in range(1, 9):
            for job in (empty_job(size), greatest_job(size), mixed_job(size, 160, flow=3, way=3, charge=9)):
                desk, kept = self.begun(job)
                self.assertEqual(kept.job(), job)
                for word in ASKED:
                    self.assert_says(desk, word, said_answer(kept, word))
                if size <= 5:
                    self.assert_says(desk, "least", str(gone_through_least(job)))

    def test_lines_and_hubs(self):
        desk, kept = self.begun(empty_job(3))
        for row in ("way 0 1 3", "way 1 0 3", "way 0 2 7", "way 2 0 7", "way 1 2 4", "way 2 1 4"):
            self.do(desk, kept, row)
        self.assert_says(desk, "line", "0 3 7")
        self.do(desk, kept, "way 2 1 5")
        self.assert_says(desk, "line", "none")
        for row, due in (("flow 2 1 4", "1"), ("flow 0 2 1", "2"), ("flow 1 0 1", "none"), ("flow 2 1 0", "0")):
            self.assert_says(desk, row, "ok")
            self.assert_says(desk, "hub", due)

    def test_means(self):
        for charge, due in ((0, "0"), (3, "1"), (1, "1/3"), (4, "4/3"), (1000000, "1000000/3")):
            desk, kept = self.begun(empty_job(3))
            self.do(desk, kept, f"cost 2 2 {charge}")
            self.assert_says(desk, "mean", due)

    def test_long_drawn_rows_of_words(self):
        for size in range(1, 9):
            source = random.Random(size)
            desk, kept = self.begun(mixed_job(size, 161, flow=2, way=2, charge=5))
            for draw in range(250):
                self.do(desk, kept, drawn_row(kept, source))
                if draw % 5 == 0:
                    self.assert_stands(desk, kept)
            self.undo_all(desk, kept)

    def test_jobs_among_the_rows(self):
        source = random.Random(162)
        desk, kept = Desk(), None
        for draw in range(600):
            if kept is None or source.random() < 0.05:
                size = source.randint(1, 8)
                self.assert_says(desk, f"job {size}", "ok")
                kept = laid_from_0(size)
            else:
                self.do(desk, kept, drawn_row(kept, source))
            self.assert_stands(desk, kept)

    def test_the_number_that_stands_there_and_a_work_with_itself_are_deeds(self):
        desk, kept = self.begun(empty_job(2))
        for row in ("flow 0 1 0", "way 0 1 0", "cost 0 0 0", "swap 1 1"):
            self.do(desk, kept, row)
        for deed in range(4):
            self.assert_says(desk, "back", "ok")
        self.assert_says(desk, "back", Nothing)

    def test_still_is_no_deed(self):
        desk, kept = self.begun(greatest_job(4))
        self.do(desk, kept, "better")
        self.undo_all(desk, kept)

    def test_two_desks_by_turns(self):
        source = random.Random(163)
        pairs = [self.begun(empty_job(5)), self.begun(mixed_job(4, 164, flow=2, way=2, charge=2))]
        for draw in range(200):
            desk, kept = source.choice(pairs)
            self.do(desk, kept, drawn_row(kept, source))
            for pair in pairs:
                self.assert_stands(*pair)
        for pair in pairs:
            self.undo_all(*pair)
        other = Desk()
        self.assert_says(other, "show", NoRow)

    def test_eight_works_at_the_greatest_numbers_in_a_few_seconds(self):
        desk, kept = self.begun(greatest_job(8))
        start = time.monotonic()
        for word in ASKED:
            self.assert_says(desk, word, said_answer(kept, word))
        self.assertLess(time.monotonic() - start, 5)
        self.assert_says(desk, "total", str(8 * 10 ** 6 + 56 * 999 * 999))
        self.assert_says(desk, "least", TooMany)


def wrong_words():
    """Texts that are no rows by their words, whatever stands."""
    rows = ["", " ", "  ", "\t", "\n", "0", "1 2", "ok", "jobs 1", "charge 0 0 5", "works 2", "none", "say", "x" * 4000]
    rows += ["job", "job ", "job 0", "job 9", "job 08", "job 01", "job 10", "job 00", "job 1 1", "job -1", "job +1"]
    rows += ["job 12345678", f"job {FAR}", "job 1.0", "job  1", "Job 1", "JOB 1", "job\t1", "job 1\n", "job one"]
    for row in ROWS:
        rows += [row + " ", " " + row, row + "\n", "\n" + row, row + "\t", "\t" + row, row.upper(), row.title()]
        rows += [row + " 0", row + " x", "x " + row, row + ".", row + ",", row[1:]]
        rows += [row + row, row + " " + row, row + "\n" + row]
    for row in ("flow 0 1 5", "way 1 0 7", "cost 1 1 9", "swap 0 1"):
        words = row.split(" ")
        rows += [row.replace(" ", "  ", 1), row.replace(" ", "\t"), row.replace(" ", "\n"), row.replace(" ", ",")]
        rows += [words[0], " ".join(words[:-1]), " ".join(words[1:]), "  ".join(words), " ".join(words[:-1]) + " "]
        no_numbers = ["12345678", "10000000", str(FAR), "05", "00", "000", "+1", "-1", "-0", "1.0", "1_0", "one", ""]
        for at in range(1, len(words)):
            for wrong in no_numbers:
                rows.append(" ".join(words[:at] + [wrong] + words[at + 1:]))
    return [row for row in rows if row not in ROWS]


class Refused(DeskTest):
    def test_by_its_words(self):
        desk = Desk()
        for row in wrong_words():
            self.assert_says(desk, row, NoRow)
        self.assert_says(desk, "total", NoRow)
        desk, kept = self.begun(mixed_job(3, 165))
        for row in wrong_words():
            self.assert_says(desk, row, NoRow)
        self.assert_stands(desk, kept)
        self.undo_all(desk, kept)

    def test_all_is_as_it_was_after_each(self):
        desk, kept = self.begun(mixed_job(2, 166))
        for row in wrong_words()[::7]:
            self.assert_says(desk, row, NoRow)
            self.assert_stands(desk, kept)
        self.undo_all(desk, kept)

    def test_what_is_no_text(self):
        things = [thing for thing in anything() if type(thing) is not str]
        things += [("job 1",), ["job 1"], {"job 1": "job 1"}, ["total"], ("job", 1), ("flow", 0, 1, 5)]
        empty = Desk()
        desk, kept = self.begun(mixed_job(3, 167))
        for thing in things:
            self.assert_says(empty, thing, NoRow)
            self.assert_says(desk, thing, NoRow)
        for thing in anything():
            if type(thing) is str:
                self.assert_says(desk, thing, NoRow)
        self.assert_says(empty, "back", NoRow)
        self.undo_all(desk, kept)

    def test_where_no_job_stands(self):
        desk = Desk()
        for row in ROWS + ("flow 9 9 9999999", "swap 5 5", "cost 0 0 1000001"):
            self.assert_says(desk, row, NoRow)
        for row in ("job 0", "job 9"):
            self.assert_says(desk, row, NoRow)
            self.assert_says(desk, "show", NoRow)
        self.assert_says(desk, "job 1", "ok")
        self.assert_says(desk, "show", "works 1")

    def test_a_refused_job_leaves_the_one_that_stands(self):
        desk, kept = self.begun(mixed_job(4, 168))
        for row in ("job 0", "job 9", "job 08", "job", "job 4 4", "job 9999999"):
            self.assert_says(desk, row, NoRow)
            self.assert_stands(desk, kept)
        self.undo_all(desk, kept)

    def test_no_such_work_or_place(self):
        for size in range(1, 9):
            desk, kept = self.begun(mixed_job(size, 169, flow=1, way=1, charge=1))
            for wrong in (size, size + 1, 999, 1000, 9999999):
                for right in (0, size - 1):
                    for one, other in ((wrong, right), (right, wrong), (wrong, wrong)):
                        self.assert_says(desk, f"swap {one} {other}", NoWork)
                        for word in SQUARES:
                            for number in (0, 5, 999, 1000, 1000001, 9999999):
                                self.assert_says(desk, f"{word} {one} {other} {number}", NoWork)
            for work in range(size):
                for number in (0, 1, 999, 1000, 9999999):
                    self.assert_says(desk, f"flow {work} {work} {number}", NoWork)
                    self.assert_says(desk, f"way {work} {work} {number}", NoWork)
            self.assert_stands(desk, kept)
            self.undo_all(desk, kept)

    def test_no_number(self):
        for size in range(1, 9):
            desk, kept = self.begun(mixed_job(size, 170, flow=1, way=1, charge=1))
            for one, other in itertools.product(range(size), repeat=2):
                for number in (1000, 1001, 1000000, 9999999):
                    if one != other:
                        self.assert_says(desk, f"flow {one} {other} {number}", NoNumber)
                        self.assert_says(desk, f"way {one} {other} {number}", NoNumber)
                for number in (1000001, 9999999):
                    self.assert_says(desk, f"cost {one} {other} {number}", NoNumber)
            self.assert_stands(desk, kept)
            self.undo_all(desk, kept)

    def test_the_greatest_numbers_are_taken(self):
        desk, kept = self.begun(empty_job(8))
        for row in ("flow 7 6 999", "way 6 7 999", "cost 7 7 1000000", "swap 7 7", "cost 0 0 0"):
            self.do(desk, kept, row)
        self.assert_stands(desk, kept)

    def test_nothing_to_be_undone(self):
        for size in range(1, 9):
            desk, kept = self.begun(empty_job(size))
            for draw in range(2):
                self.assert_says(desk, "back", Nothing)
                self.assert_stands(desk, kept)
            self.do(desk, kept, "swap 0 0")
            self.undo_all(desk, kept)

    def test_too_many(self):
        for size in range(1, 9):
            for job in (empty_job(size), mixed_job(size, 171)):
                desk, kept = self.begun(job)
                self.assert_says(desk, "least", TooMany if size > 6 else str(least(job)[0]))
                self.assert_stands(desk, kept)

    def test_refusals_among_long_drawn_rows(self):
        wrong = wrong_words()
        for size in range(2, 9):
            source = random.Random(size)
            desk, kept = self.begun(mixed_job(size, 172, flow=2, way=2, charge=5))
            for draw in range(80):
                self.do(desk, kept, drawn_row(kept, source))
                self.assert_says(desk, source.choice(wrong), NoRow)
                self.assert_says(desk, f"swap 0 {size}", NoWork)
                self.assert_says(desk, f"flow 0 {size - 1} 1000", NoNumber)
                self.assert_stands(desk, kept)
            self.undo_all(desk, kept)


if __name__ == "__main__":
    unittest.main()
