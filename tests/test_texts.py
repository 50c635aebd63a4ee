import itertools
import random
import re
import unittest

from helper import (
    FAR, anything, assert_refused, empty_job, even_job, greatest_job, mirrored_job, mixed_job, put, sample_jobs,
    some_of, square,
)
from spotlay.errors import NoText
from spotlay.jobs import is_job
from spotlay.texts import read_job, show_job

ROW = re.compile(r"(flow|way|cost) (0|[1-9][0-9]*) (0|[1-9][0-9]*) ([1-9][0-9]*)")
WORDS = ["flow", "way", "cost"]
SIGNS = [chr(code) for code in range(32, 127)] + ["\t", "\n"]


def said_text(job):
    """The text of a job, by the words of the document."""
    flows, ways, costs = job
    size = len(flows)
    text = "works " + str(size)
    for word, numbers in (("flow", flows), ("way", ways), ("cost", costs)):
        for one, other in itertools.product(range(size), repeat=2):
            if numbers[one][other] != 0:
                text += "\n" + word + " " + str(one) + " " + str(other) + " " + str(numbers[one][other])
    return text


def said_job(text):
    """The job of a text, row by row, or None where no job is written so."""
    head, *rows = text.split("\n")
    if not re.fullmatch(r"works [1-8]", head):
        return None
    size = int(head[-1])
    squares = [square(size, lambda i, j: 0) for word in WORDS]
    ahead = (0, 0, -1)
    for row in rows:
        match = ROW.fullmatch(row)
        if match is None:
            return None
        key = (WORDS.index(match[1]), int(match[2]), int(match[3]))
        at, one, other = key
        number = int(match[4])
        most = 10 ** 6 if at == 2 else 999
        if key <= ahead or one >= size or other >= size or number > most or (at < 2 and one == other):
            return None
        squares[at] = put(squares[at], (one, other), number)
        ahead = key
    return tuple(squares)


def some_jobs():
    jobs = sample_jobs()
    for size in range(1, 9):
        jobs += [mirrored_job(size, 140), even_job(size, 999, 0, 0), even_job(size, 0, 1, 0), even_job(size, 0, 0, 1)]
        jobs += [mixed_job(size, seed, flow=1, way=1, charge=1) for seed in range(3)]
        for path in ((0, 0, size - 1), (1, size - 1, 0), (2, 0, 0), (2, size - 1, size - 1), (2, 0, size - 1)):
            if path[0] == 2 or size > 1:
                jobs += [put(empty_job(size), path, number) for number in (1, 10, 100, 999)]
    return jobs


class ShowJob(unittest.TestCase):
    def test_by_hand(self):
        job = (((0, 3), (5, 0)), ((0, 7), (0, 0)), ((1, 0), (400, 1000000)))
        text = "works 2\nflow 0 1 3\nflow 1 0 5\nway 0 1 7\ncost 0 0 1\ncost 1 0 400\ncost 1 1 1000000"
        self.assertEqual(show_job(job), text)
        self.assertEqual(read_job(text), job)

    def test_all_jobs(self):
        for job in some_jobs():
            ahead = repr(job)
            for again in range(2):
                told = show_job(job)
                self.assertIs(type(told), str)
                self.assertEqual(told, said_text(job))
                self.assertEqual(repr(job), ahead)

    def test_of_a_job_of_zeros(self):
        for size in range(1, 9):
            self.assertEqual(show_job(empty_job(size)), f"works {size}")

    def test_the_greatest_job(self):
        rows = show_job(greatest_job(8)).split("\n")
        self.assertEqual(len(rows), 1 + 56 + 56 + 64)
        self.assertEqual((rows[0], rows[1], rows[-1]), ("works 8", "flow 0 1 999", "cost 7 7 1000000"))


class ReadJob(unittest.TestCase):
    def assert_read(self, text):
        """Read as the words say; tells whether it was refused."""
        due = said_job(text)
        if due is None:
            assert_refused(self, NoText, read_job, text)
        else:
            for again in range(2):
                told = read_job(text)
                self.assertEqual(repr(told), repr(due), text)
            self.assertIs(is_job(told), True)
            self.assertEqual(show_job(told), text)
        return due is None

    def assert_no_text(self, *texts):
        for text in texts:
            self.assertTrue(self.assert_read(text), repr(text))

    def test_each_text_that_is_told(self):
        for job in some_jobs():
            self.assertEqual(repr(read_job(show_job(job))), repr(job))
            self.assertFalse(self.assert_read(said_text(job)))

    def test_heads(self):
        for size in range(1, 9):
            self.assertEqual(read_job(f"works {size}"), empty_job(size))
        self.assert_no_text("works 0", "works 9", "works 08", "works 10", "works -1", "works +1", "works 1 1", "works")
        self.assert_no_text("works ", "works  1", " works 1", "works 1 ", "Works 1", "WORKS 1", "work 1", "works one")
        self.assert_no_text("works 1\n", "\nworks 1", "\n\nworks 1", "works\t1", "works 1\t", "works\n1", "1")
        self.assert_no_text("", " ", "\n", "\t", f"works {FAR}", "works 1.0", "works 1works 1", "works 1\nworks 1")
        self.assert_no_text("flow 0 1 5", "flow 0 1 5\nworks 2", "works 1,cost 0 0 5", "works 1 cost 0 0 5")
        self.assert_no_text("x" * 4000, "works " + "1" * 3990, "works 2\nflow 0 1 " + "1" * 3980, "\n" * 4000)

    def test_single_rows(self):
        head = "works 3\n"
        for row in ("flow 0 1 5", "way 2 1 999", "cost 0 0 1000000", "cost 2 2 1", "flow 2 0 10"):
            self.assertFalse(self.assert_read(head + row))
        wrong = ["flow 0 1 0", "way 0 1 0", "cost 0 0 0", "flow 0 0 0", "flow 0 1 05", "flow 00 1 5", "flow 0 01 5"]
        wrong += ["flow 0 1 +5", "flow 0 1 -5", "flow -0 1 5", "flow 0 +1 5", "flow 0 -1 5", "cost 0 0 -1"]
        wrong += ["flow  0 1 5", "flow 0  1 5", "flow 0 1  5", " flow 0 1 5", "flow 0 1 5 ", "flow\t0 1 5"]
        wrong += ["flow 0 1 1000", "way 0 1 1000", "cost 0 0 1000001", "cost 0 0 10000000", f"cost 0 0 {FAR}"]
        wrong += [f"flow 0 1 {FAR}", f"flow 0 {FAR} 1", f"flow {FAR} 1 1", f"cost {FAR} {FAR} {FAR}"]
        wrong += ["flow 0 3 5", "flow 3 0 5", "way 0 3 5", "way 3 0 5", "cost 0 3 5", "cost 3 0 5", "cost 3 3 5"]
        wrong += ["flow 0 0 5", "flow 2 2 5", "way 1 1 5", "flow 1 1 0", "Flow 0 1 5", "WAY 0 1 5", "Cost 0 0 5"]
        wrong += ["flow 0 1 5 5", "flow 0 1", "flow 0", "flow", "0 1 5", "flow flow 0 1 5", "cost 0 0", "charge 0 0 5"]
        wrong += ["flow 0 1 five", "flow a b c", "flow 0 1 5.0", "flow 0 1 1_0", "flow 0 1 5,", "flow 0,1 5"]
        wrong += ["", " ", "works 3", "ways 0 1 5", "flows 0 1 5", "costs 0 0 5", "flow 0 1 5#", "#flow 0 1 5"]
        for row in wrong:
            self.assert_no_text(head + row, head + row + "\ncost 2 2 7", head + "flow 0 1 1\n" + row)

    def test_order_of_rows(self):
        rows = ["flow 0 1 5", "flow 1 0 5", "way 0 1 5", "way 1 0 5"]
        rows += ["cost 0 0 5", "cost 0 1 5", "cost 1 0 5", "cost 1 1 5"]
        for many in (1, 2, 3):
            for some in itertools.permutations(rows, many):
                text = "\n".join(["works 2", *some])
                refused = self.assert_read(text)
                self.assertEqual(refused, list(some) != sorted(some, key=rows.index))

    def test_a_row_twice(self):
        for job in (mixed_job(2, 141), mixed_job(8, 142), even_job(3, 1, 0, 0)):
            rows = show_job(job).split("\n")
            for at in range(len(rows)):
                self.assert_no_text("\n".join(rows[:at] + [rows[at]] + rows[at:]))
            # The same place told with another number, too.
            word, one, other, number = rows[1].split(" ")
            self.assert_no_text("\n".join(rows[:2] + [f"{word} {one} {other} {int(number) % 999 + 1}"] + rows[2:]))

    def test_line_feeds(self):
        for job in (empty_job(3), mixed_job(2, 143), greatest_job(8)):
            text = show_job(job)
            self.assert_no_text(text + "\n", "\n" + text, text + "\n\n", text + "\t", text + ",")
            self.assert_no_text(text + " ", " " + text)
            if "\n" in text:
                self.assert_no_text(text.replace("\n", "\n\n"), text.replace("\n", "\n\n", 1), text.replace("\n", " "))
                self.assert_no_text(text.replace("\n", ","), text.replace("\n", " \n"), text.replace("\n", "\n "))
                self.assert_no_text(text.replace(" ", "  ", 1), text.replace(" ", "\t"), text.upper(), text.title())

    def test_rows_of_greater_jobs(self):
        for size in range(1, 8):
            rows = show_job(mixed_job(size + 1, 144)).split("\n")
            self.assert_no_text("\n".join([f"works {size}"] + rows[1:]))
            rows = show_job(greatest_job(size)).split("\n")
            self.assertFalse(self.assert_read("\n".join([f"works {size + 1}"] + rows[1:])))

    def test_rows_left_out_are_zeros(self):
        source = random.Random(145)
        for size in range(1, 9):
            head, *rows = show_job(mixed_job(size, 146)).split("\n")
            for draw in range(10):
                self.assertFalse(self.assert_read("\n".join([head] + [row for row in rows if source.random() < 0.5])))

    def test_one_sign_changed_left_out_or_put_in(self):
        source = random.Random(147)
        answers = set()
        jobs = [mixed_job(1, 148), mixed_job(2, 149), mixed_job(3, 150, flow=1, way=1, charge=9), mixed_job(8, 151)]
        for text in [show_job(job) for job in jobs]:
            for at in some_of(range(len(text) + 1), source, 60):
                near = [text[:at] + text[at + 1:]]
                for sign in some_of(SIGNS, source, 25) + list("0123456789 \n"):
                    near += [text[:at] + sign + text[at:], text[:at] + sign + text[at + 1:]]
                for one in near:
                    answers.add(self.assert_read(one))
        self.assertEqual(answers, {True, False})

    def test_what_is_no_text(self):
        things = [thing for thing in anything() if type(thing) is not str]
        things += [("works 1",), ["works 1"], {"works 1": "works 1"}, ("works", "1"), empty_job(1), greatest_job(8)]
        for thing in things:
            assert_refused(self, NoText, read_job, thing)
        for thing in anything():
            if type(thing) is str and thing != "works 1":
                assert_refused(self, NoText, read_job, thing)


if __name__ == "__main__":
    unittest.main()
