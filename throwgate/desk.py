"""The desk: rows of words, each answered with a text.

A row is read whole before its beach is asked, so a bad row is refused ahead of all else.
"""

from throwgate.beach import Beach
from throwgate.errors import (
    BadList, BadRow, BadThrow, BeachFull, DeedsFull, NoGate, NothingBack, OutOfBounds, Taken, TooFew, UpsideDown,
    WrongSize
)
from throwgate.texts import read_fraction, read_number, write_fraction


def check_many(words, many):
    if len(words) != many:
        raise BadRow("too few or too many words")


def read_numbers(words):
    return [read_number(word) for word in words]


def read_so_many(words, many):
    check_many(words, many)
    return read_numbers(words)


def number_words(numbers):
    return [str(number) for number in numbers]


def throw_words(throw):
    return [write_fraction(throw[0], throw[1]), write_fraction(throw[2], throw[3])]


def gate_text(gate):
    return " ".join(["gate"] + number_words(gate))


def deeds_text(many):
    return f"deeds {many}"


def through_text(told, ends):
    # The ends are the two words ahead of the two places that a steepest or flattest throw has.
    if told[0] == "bar":
        return " ".join(["bar"] + number_words(told[1]))
    words = ["throw"] + throw_words(told[1])
    for end, place in zip(ends, told[2:]):
        words = words + [end, str(place)]
    return " ".join(words)


def run_word(run):
    return ":".join([str(run[0]), str(run[1])] + throw_words(run[2]))


def put_row(beach, words):
    numbers = read_so_many(words, 3)
    return gate_text(beach.put(numbers[0], numbers[1], numbers[2]))


def take_row(beach, words):
    numbers = read_so_many(words, 1)
    return gate_text(beach.take(numbers[0]))


def lift_row(beach, words):
    numbers = read_so_many(words, 3)
    return gate_text(beach.lift(numbers[0], numbers[1], numbers[2]))


def sink_row(beach, words):
    numbers = read_so_many(words, 3)
    return gate_text(beach.sink(numbers[0], numbers[1], numbers[2]))


def back_row(beach, words):
    if len(words) == 0:
        return deeds_text(beach.back())
    numbers = read_so_many(words, 1)
    return deeds_text(beach.back(numbers[0]))


def deeds_row(beach, words):
    check_many(words, 0)
    return deeds_text(beach.deeds())


def gates_row(beach, words):
    check_many(words, 0)
    return " ".join(["gates"] + [":".join(number_words(gate)) for gate in beach.gates()])


def through_row(beach, words):
    return through_text(beach.through(read_numbers(words)), ())


def steepest_row(beach, words):
    return through_text(beach.steepest(read_numbers(words)), ("foot", "head"))


def flattest_row(beach, words):
    return through_text(beach.flattest(read_numbers(words)), ("head", "foot"))


def runs_row(beach, words):
    check_many(words, 0)
    return " ".join(["runs"] + [run_word(run) for run in beach.runs()])


def most_row(beach, words):
    check_many(words, 0)
    told = beach.most()
    return " ".join(["most"] + number_words(told[0]) + ["throw"] + throw_words(told[1]))


def passed_row(beach, words):
    check_many(words, 2)
    height = read_fraction(words[0])
    rise = read_fraction(words[1])
    return " ".join(["passed"] + number_words(beach.passed(height + rise)))


ROWS = {
    "put": put_row,
    "take": take_row,
    "lift": lift_row,
    "sink": sink_row,
    "back": back_row,
    "deeds": deeds_row,
    "gates": gates_row,
    "through": through_row,
    "steepest": steepest_row,
    "flattest": flattest_row,
    "runs": runs_row,
    "most": most_row,
    "passed": passed_row,
}


def row_told(beach, row):
    # A blank too many leaves an empty word, which is no word of the desk and no number.
    words = row.split(" ")
    asked = ROWS.get(words[0])
    if asked is None:
        raise BadRow("the desk does not know this word")
    return asked(beach, words[1:])


def row_answer(beach, row):
    try:
        return row_told(beach, row)
    except BadRow:
        return "refused: bad row"
    except NoGate:
        return "refused: no gate"
    except Taken:
        return "refused: taken"
    except UpsideDown:
        return "refused: upside down"
    except OutOfBounds:
        return "refused: out of bounds"
    except BeachFull:
        return "refused: beach full"
    except DeedsFull:
        return "refused: deeds full"
    except NothingBack:
        return "refused: nothing back"
    except BadList:
        return "refused: bad list"
    except TooFew:
        return "refused: too few"
    except WrongSize:
        return "refused: wrong size"
    except BadThrow:
        return "refused: bad throw"


class Desk:
    def __init__(self):
        self.beach = Beach()

    def answer(self, row):
        return row_answer(self.beach, row)


def answers(rows):
    desk = Desk()
    return [desk.answer(row) for row in rows]
