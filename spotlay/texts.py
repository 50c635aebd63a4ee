"""Jobs written as texts, and read from them."""

from spotlay.errors import NoText
from spotlay.jobs import MOST_WORKS, is_job

# The words of flows, ways and costs, as they stand in a job.
WORDS = ("flow", "way", "cost")
FIGURES = "0123456789"
# The greatest number of a job, 1,000,000, has so many.
MOST_FIGURES = 7


def is_number_word(word):
    """Tell of a text whether it is a number by figures, not too many, with no 0 ahead but of 0 itself."""
    if not 1 <= len(word) <= MOST_FIGURES:
        return False
    if word[0] == "0" and word != "0":
        return False
    return all(sign in FIGURES for sign in word)


def show_job(job):
    """Tell the text of a job."""
    rows = [f"works {len(job[0])}"]
    for word, numbers in zip(WORDS, job):
        for one, row in enumerate(numbers):
            for other, number in enumerate(row):
                if number != 0:
                    rows.append(f"{word} {one} {other} {number}")
    return "\n".join(rows)


def read_head(row):
    """Tell how many works the first row of a text tells, or None."""
    for many in range(1, MOST_WORKS + 1):
        if row == f"works {many}":
            return many
    return None


def read_row(row, squares):
    """Put the number that a row tells in its square; a row that tells none is passed over."""
    word, *rest = row.split(" ")
    if word in WORDS and len(rest) == 3 and all(is_number_word(one) for one in rest):
        rows = squares[WORDS.index(word)]
        one, other, number = [int(figures) for figures in rest]
        if one < len(rows) and other < len(rows):
            rows[one][other] = number


def read_rows(rows):
    """Tell the three squares that the rows of a text tell, or None where the first row tells no works."""
    many = read_head(rows[0])
    if many is None:
        return None
    squares = [[[0] * many for one in range(many)] for word in WORDS]
    for row in rows[1:]:
        read_row(row, squares)
    return tuple([tuple([tuple(row) for row in numbers]) for numbers in squares])


def read_job(text):
    """Tell the job of a text."""
    if not isinstance(text, str):
        raise NoText("this is no text")
    job = read_rows(text.split("\n"))
    # Where a row was passed over, told twice, in another order or with a 0, the job is written another way.
    if not is_job(job) or show_job(job) != text:
        raise NoText("no job is written so")
    return job
