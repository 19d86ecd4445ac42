import re
import unittest
from fractions import Fraction

from tests.shores import Dice, beach_of, many_lists
from throwgate import errors
from throwgate.beach import Beach
from throwgate.desk import Desk, answers

BAD = "refused: bad row"
WORDS = {
    "NoGate": "no gate", "Taken": "taken", "UpsideDown": "upside down", "OutOfBounds": "out of bounds",
    "BeachFull": "beach full", "DeedsFull": "deeds full", "NothingBack": "nothing back", "BadList": "bad list",
    "TooFew": "too few", "WrongSize": "wrong size", "BadThrow": "bad throw",
}
NUMBER = r"(?:0|-?[1-9][0-9]{0,8})"
FRACTION = NUMBER + "(?:/" + NUMBER + ")?"
FORMS = [re.compile(form) for form in (
    f"(put|lift|sink) {NUMBER} {NUMBER} {NUMBER}", f"take {NUMBER}", f"back( {NUMBER})?", "deeds|gates|runs|most",
    f"(through|steepest|flattest)( {NUMBER})*", f"passed {FRACTION} {FRACTION}",
)]
# A row of each form, to be spoiled.
GOOD = (
    "put 5 1 2", "take 1", "lift 1 0 0", "sink 1 2 1", "back", "back 1", "deeds", "gates", "through", "through 1",
    "through 1 2 3", "steepest", "steepest 1 2", "flattest", "flattest 3 1 2", "runs", "most", "passed 0 1",
    "passed 1/2 -3/4",
)
START = ("put 1 0 9", "put 2 -4 4", "put 3 2 2")


def fraction_text(top, bottom):
    return str(Fraction(top, bottom))


def throw_text(throw):
    return fraction_text(throw[0], throw[1]) + " " + fraction_text(throw[2], throw[3])


def list_text(told, near, far):
    if told[0] == "bar":
        return "bar %d %d %d" % told[1]
    text = "throw " + throw_text(told[1])
    return text if near == "" else text + " %s %d %s %d" % (near, told[2], far, told[3])


def fraction_read(word):
    parts = word.split("/")
    return int(parts[0]), int(parts[1]) if len(parts) == 2 else 1


def plain_told(beach, row):
    """The answer to a good row, made of what the beach tells."""
    word, *rest = row.split(" ")
    if word == "passed":
        return " ".join(["passed"] + ["%d" % place for place in
                                      beach.passed(fraction_read(rest[0]) + fraction_read(rest[1]))])
    numbers = [int(text) for text in rest]
    if word in ("put", "take", "lift", "sink"):
        return "gate %d %d %d" % getattr(beach, word)(*numbers)
    if word == "back":
        return "deeds %d" % beach.back(*numbers)
    if word == "deeds":
        return "deeds %d" % beach.deeds()
    if word == "gates":
        return " ".join(["gates"] + ["%d:%d:%d" % gate for gate in beach.gates()])
    if word == "runs":
        return " ".join(["runs"] + ["%d:%d:%s" % (run[0], run[1], throw_text(run[2]).replace(" ", ":"))
                                    for run in beach.runs()])
    if word == "most":
        places, throw = beach.most()
        return " ".join(["most"] + [str(place) for place in places] + ["throw", throw_text(throw)])
    ends = {"through": ("", ""), "steepest": ("foot", "head"), "flattest": ("head", "foot")}[word]
    return list_text(getattr(beach, word)(numbers), *ends)


def plain_answer(beach, row):
    if not any(form.fullmatch(row) for form in FORMS):
        return BAD
    try:
        return plain_told(beach, row)
    except errors.BeachError as refusal:
        return "refused: " + WORDS[type(refusal).__name__]


class DeskCase(unittest.TestCase):
    def desk(self, rows=()):
        desk = Desk()
        for row in rows:
            self.assertFalse(desk.answer(row).startswith("refused"), row)
        return desk

    def check(self, desk, row, wanted):
        told = desk.answer(row)
        self.assertIs(type(told), str)
        self.assertEqual(told, wanted, row)

    def check_refused(self, desk, row, word):
        stood = (desk.answer("gates"), desk.answer("deeds"))
        self.check(desk, row, "refused: " + word)
        self.assertEqual((desk.answer("gates"), desk.answer("deeds")), stood, row)


class RowsTest(DeskCase):
    def test_deeds(self):
        desk = self.desk()
        self.check(desk, "put 7 -3 4", "gate 7 -3 4")
        self.check(desk, "put -1000 -1000 1000", "gate -1000 -1000 1000")
        self.check(desk, "lift 7 1 0", "gate 7 -2 4")
        self.check(desk, "lift 7 -1 -1", "gate 7 -3 3")
        self.check(desk, "sink 7 2 1", "gate 7 -5 2")
        self.check(desk, "sink 7 0 -8", "gate 7 -5 10")
        self.check(desk, "deeds", "deeds 6")
        self.check(desk, "take 7", "gate 7 -5 10")
        self.check(desk, "deeds", "deeds 7")
        self.check(desk, "gates", "gates -1000:-1000:1000")

    def test_gates(self):
        desk = self.desk()
        self.check(desk, "gates", "gates")
        self.check(desk, "put 7 -3 4", "gate 7 -3 4")
        self.check(desk, "gates", "gates 7:-3:4")
        self.check(desk, "put -5 0 0", "gate -5 0 0")
        self.check(desk, "gates", "gates -5:0:0 7:-3:4")

    def test_back(self):
        desk = self.desk(START)
        self.check(desk, "deeds", "deeds 3")
        self.check(desk, "back", "deeds 2")
        self.check(desk, "gates", "gates 1:0:9 2:-4:4")
        self.check(desk, "back 2", "deeds 0")
        self.check(desk, "gates", "gates")
        self.check(desk, "deeds", "deeds 0")
        self.check(desk, "put 1 1 1", "gate 1 1 1")
        self.check(desk, "back 1", "deeds 0")

    def test_through(self):
        desk = self.desk(("put 0 0 0", "put 3 1 1", "put 6 2 2", "put 4 9 9", "put -1 -1 -1"))
        self.check(desk, "through 0 3 6", "throw 0 1/3")
        self.check(desk, "through 6 0 3", "throw 0 1/3")
        self.check(desk, "through 0 3", "throw 0 1/3")
        self.check(desk, "through 0 -1", "throw 0 1")
        self.check(desk, "through 3 -1", "throw -1/2 1/2")
        self.check(desk, "through 6 4 3 0", "bar 0 3 4")
        self.check(desk, "through -1 0 3", "bar -1 0 3")
        self.check(desk, "steepest 0 3 6", "throw 0 1/3 foot 0 head 3")
        self.assertRegex(desk.answer("through 4"), r"^throw [^ ]+ [^ ]+\Z")

    def test_steepest_and_flattest(self):
        desk = self.desk(("put 0 0 9", "put 1 1 3", "put 3 2 4", "put 8 500 500"))
        self.check(desk, "steepest 0 1 3", "throw 0 4/3 foot 0 head 3")
        self.check(desk, "steepest 3 1 0", "throw 0 4/3 foot 0 head 3")
        self.check(desk, "flattest 0 1 3", "throw 7/2 -1/2 head 1 foot 3")
        self.check(desk, "flattest 1 3 0", "throw 7/2 -1/2 head 1 foot 3")
        self.check(desk, "steepest 0 1 3 8", "bar 0 1 8")
        self.check(desk, "flattest 8 3 1 0", "bar 0 1 8")

    def test_lists_alone_are_rows_too(self):
        for desk in (self.desk(), self.desk(START)):
            for word in ("through", "steepest", "flattest"):
                self.check_refused(desk, word, "bad list")

    def test_runs(self):
        desk = self.desk()
        self.check(desk, "runs", "runs")
        for row in ("put 0 0 0", "put 2 1 1", "put 4 0 0"):
            desk.answer(row)
        self.check(desk, "runs", "runs 0:2:0:1/2 4:4:0:0")
        self.check(desk, "put -2 -1 -1", "gate -2 -1 -1")
        self.check(desk, "runs", "runs -2:2:0:1/2 4:4:0:0")

    def test_most(self):
        desk = self.desk(("put 0 0 0", "put 3 1 1", "put 6 2 2", "put 4 9 9", "put 5 -8 -8"))
        self.check(desk, "most", "most 0 3 6 throw 0 1/3")
        self.check(desk, "put -3 -1 0", "gate -3 -1 0")
        self.check(desk, "most", "most -3 0 3 6 throw 0 1/3")
        desk = self.desk(("put 0 4 4",))
        self.assertRegex(desk.answer("most"), r"^most 0 throw 4 [^ ]+\Z")

    def test_passed(self):
        desk = self.desk(("put 4 0 3", "put 2 0 2", "put -5 0 0", "put 1 2 9"))
        self.check(desk, "passed 5/3 1/3", "passed -5 1 4")
        self.check(desk, "passed 10/6 4/12", "passed -5 1 4")
        self.check(desk, "passed 0 0", "passed -5 2 4")
        self.check(desk, "passed 0/7 0/999999999", "passed -5 2 4")
        self.check(desk, "passed 500 0", "passed")
        self.check(desk, "passed -1 -1/2", "passed")
        self.check(self.desk(), "passed 0 0", "passed")

    def test_told_throws_are_asked_about_again(self):
        for gates in many_lists(2, 8, 1, 111):
            desk = self.desk(["put %d %d %d" % gate for gate in gates])
            told = re.fullmatch("most (.+) throw ([^ ]+) ([^ ]+)", desk.answer("most"))
            self.check(desk, "passed %s %s" % (told[2], told[3]), "passed " + told[1])
            for run in desk.answer("runs").split(" ")[1:]:
                first, last, height, rise = run.split(":")
                passed = desk.answer("passed %s %s" % (height, rise)).split(" ")[1:]
                wanted = {str(gate[0]) for gate in gates if int(first) <= gate[0] <= int(last)}
                self.assertLessEqual(wanted, set(passed))

    def test_a_row_of_a_thousand_signs(self):
        desk = self.desk(["put %d -1000 1000" % place for place in range(-1000, -960)])
        row = "through " + " ".join(str(place) for place in range(-1000, -960))
        self.assertRegex(desk.answer(row), r"^throw [^ ]+ [^ ]+\Z")
        row = "through" + " 999999999" * 99
        self.assertLessEqual(len(row), 1000)
        self.check_refused(desk, row, "bad list")
        self.check_refused(desk, "through" + " -123456789" * 120, "bad list")


class BadRowTest(DeskCase):
    def check_bad(self, row):
        for start in ((), START):
            self.check_refused(self.desk(start), row, "bad row")

    def test_unknown_words(self):
        for row in ("x", "Put 1 2 3", "PUT 1 2 3", "puts 1 2 3", "pu 1 2 3", "gate 1 2 3", "gate", "throw 0 0", "bar",
                    "deed", "run", "pass 0 0", "1", "0", "-", "~", "refused: bad row", "put:1:2:3", "quit", "help",
                    "through:1", "put1 2 3", "standing", "past", "answer", "do_deed 1", "x" * 1000, "~" * 1000):
            self.check_bad(row)

    def test_empty_row_and_blanks_too_many(self):
        for row in ("", " ", "  ", " " * 1000):
            self.check_bad(row)
        for row in GOOD:
            self.check_bad(" " + row)
            self.check_bad(row + " ")
            self.check_bad("  " + row)
            self.check_bad(row + "  ")
            if " " in row:
                self.check_bad(row.replace(" ", "  "))
                self.check_bad(row.replace(" ", "  ", 1))
                self.check_bad("  ".join(row.rsplit(" ", 1)))
                self.check_bad(row.replace(" ", "\t"))
                self.check_bad(row.replace(" ", ","))

    def test_too_few_and_too_many_words(self):
        for row in ("put", "put 1", "put 1 2", "put 1 2 3 4", "take", "take 1 2", "lift", "lift 1", "lift 1 2",
                    "lift 1 2 3 4", "sink", "sink 1", "sink 1 2", "sink 1 2 3 4", "back 1 1", "back 1 2 3", "deeds 1",
                    "deeds 0", "deeds deeds", "gates 1", "gates gates", "runs 1", "most 1", "most 0", "passed",
                    "passed 1", "passed 1 2 3", "passed 1/2", "passed 1 1 1 1", "put 5 1 2 put 6 1 2"):
            self.check_bad(row)

    def test_what_is_no_number(self):
        for wrong in ("x", "", "00", "01", "-0", "+1", "1234567890", "-1234567890", "1.0", "1e2", "--1", "1-", "-",
                      "1/1", "1:2", "1_0", "0x1", "1,", "put", "None", "True", "9" * 900):
            for form in ("put {} 1 2", "put 1 {} 2", "put 1 2 {}", "take {}", "lift {} 1 2", "lift 1 {} 2",
                         "lift 1 2 {}", "sink {} 1 2", "sink 1 {} 2", "sink 1 2 {}", "back {}", "through {}",
                         "through 1 {}", "through {} 1", "through 1 {} 2", "steepest {}", "steepest 1 {}",
                         "flattest {} 1", "flattest 1 2 {}"):
                self.check_bad(form.format(wrong))

    def test_what_is_no_fraction(self):
        for wrong in ("x", "", "00", "-0", "+1", "1234567890", "1/", "/1", "/", "1//2", "1/2/3", "01/2", "1/02",
                      "1/-0", "-0/1", "1/+2", "1.5", "1:2", "1/1234567890", "1234567890/1"):
            for form in ("passed {} 1", "passed 1/2 {}", "passed {} {}"):
                self.check_bad(form.format(wrong, wrong))

    def test_bad_row_ahead_of_all_other_refusals(self):
        for row in ("through 1 1 x", "through 77 x", "steepest 1 01", "flattest x", "put 1 9 x", "take 77 1",
                    "lift 77 0", "sink 77 -0 0", "back 0 0", "back -01", "most 1", "passed 1/0 x", "passed x 1/0",
                    "put 5000 9 +1"):
            self.check_bad(row)


class RefusalsTest(DeskCase):
    def test_no_gate(self):
        desk = self.desk(START)
        for row in ("take 5", "lift 5 0 0", "sink 5 0 0", "through 5", "through 1 5", "steepest 5", "flattest 1 5",
                    "take 999999999", "take -999999999", "through 999999999", "steepest 1 -999999999"):
            self.check_refused(desk, row, "no gate")

    def test_taken(self):
        desk = self.desk(START)
        self.check_refused(desk, "put 1 0 0", "taken")
        self.check_refused(desk, "put 1 9 0", "taken")

    def test_upside_down(self):
        desk = self.desk(START)
        for row in ("put 5 1 0", "put 5 999999999 0", "lift 3 1 0", "sink 3 0 1", "put 999999999 1 0"):
            self.check_refused(desk, row, "upside down")

    def test_out_of_bounds(self):
        desk = self.desk(START)
        for row in ("put 1001 0 0", "put -1001 0 0", "put 5 0 1001", "put 5 -1001 0", "lift 3 0 999", "sink 3 1003 0",
                    "put 5 0 999999999", "back 0", "back -1", "back -999999999"):
            self.check_refused(desk, row, "out of bounds")

    def test_beach_full(self):
        desk = self.desk(["put %d 0 1" % place for place in range(40)])
        self.check_refused(desk, "put 40 0 1", "beach full")
        self.check_refused(desk, "put 39 0 1", "taken")
        self.check_refused(desk, "most", "wrong size")
        self.check(desk, "take 39", "gate 39 0 1")
        self.check(desk, "put 40 0 1", "gate 40 0 1")

    def test_deeds_full(self):
        desk = self.desk(list(START) + ["lift 1 0 0"] * 297)
        self.check(desk, "deeds", "deeds 300")
        for row in ("put 5 0 0", "take 1", "lift 1 0 0", "sink 1 0 0"):
            self.check_refused(desk, row, "deeds full")
        self.check(desk, "back", "deeds 299")
        self.check(desk, "take 1", "gate 1 0 9")
        self.check(desk, "back 300", "deeds 0")

    def test_nothing_back(self):
        self.check_refused(self.desk(), "back", "nothing back")
        self.check_refused(self.desk(), "back 1", "nothing back")
        desk = self.desk(START)
        self.check_refused(desk, "back 4", "nothing back")
        self.check_refused(desk, "back 999999999", "nothing back")
        self.check(desk, "back 3", "deeds 0")

    def test_bad_list(self):
        desk = self.desk(START)
        for word in ("through", "steepest", "flattest"):
            self.check_refused(desk, word, "bad list")
            self.check_refused(desk, word + " 1 1", "bad list")
            self.check_refused(desk, word + " 77 1 77", "bad list")
            self.check_refused(desk, word + " " + " ".join(str(place) for place in range(41)), "bad list")

    def test_too_few(self):
        desk = self.desk(START)
        self.check_refused(desk, "steepest 1", "too few")
        self.check_refused(desk, "flattest 1", "too few")

    def test_wrong_size(self):
        self.check_refused(self.desk(), "most", "wrong size")
        desk = self.desk(["put %d 0 1" % place for place in range(13)])
        self.check_refused(desk, "most", "wrong size")
        self.check(desk, "back", "deeds 12")
        self.assertTrue(desk.answer("most").startswith("most 0 1 2 3 4 5 6 7 8 9 10 11 throw "))

    def test_bad_throw(self):
        desk = self.desk(START)
        for row in ("passed 1/0 0", "passed 0 1/0", "passed 1/-2 0", "passed 0 1/-1", "passed 0/0 0/0"):
            self.check_refused(desk, row, "bad throw")
        self.check(desk, "passed 999999999/999999999 -999999999/999999999", "passed 1 2")


class DesksTest(DeskCase):
    def test_two_desks_share_nothing(self):
        one, two = Desk(), Desk()
        self.check(one, "put 1 2 3", "gate 1 2 3")
        self.check(two, "gates", "gates")
        self.check(two, "put 1 5 6", "gate 1 5 6")
        self.check(one, "back", "deeds 0")
        self.check(two, "gates", "gates 1:5:6")
        self.check(Desk(), "deeds", "deeds 0")

    def test_answers(self):
        rows = ["put 1 2 3", "x", "gates", "", "back", "back", "gates"]
        wanted = ["gate 1 2 3", BAD, "gates 1:2:3", BAD, "deeds 0", "refused: nothing back", "gates"]
        handed = list(rows)
        told = answers(handed)
        self.assertIs(type(told), list)
        self.assertEqual(told, wanted)
        self.assertEqual(handed, rows)
        handed.clear()
        self.assertEqual(told, wanted)
        told.append("more")
        self.assertEqual(answers(rows), wanted)

    def test_answers_begin_with_a_new_desk(self):
        self.assertEqual(answers([]), [])
        self.assertIsNot(answers([]), answers([]))
        self.assertEqual(answers(["put 1 2 3"]), ["gate 1 2 3"])
        self.assertEqual(answers(["gates", "deeds"]), ["gates", "deeds 0"])

    def test_the_same_gates_by_other_rows(self):
        asked = ["gates", "runs", "most", "through 3 1 2", "steepest 1 2 3", "flattest 2 3 1", "passed 1 1/2"]
        wanted = answers(list(START) + asked)[3:]
        around = ["put 3 0 0", "runs", "lift 3 2 2", "put 9 9 9", "put 1 -5 5", "lift 1 5 4", "put 2 -4 4", "take 9",
                  "take 1", "back", "x", "take 8"]
        self.assertEqual(answers(around + asked + asked)[len(around):], wanted + wanted)
        self.assertEqual(answers(list(reversed(START)) + asked)[3:], wanted)


class LongTalkTest(DeskCase):
    """Long rows of rows, good and spoiled ones, held against answers made of what a beach tells."""

    def number(self, dice, reach):
        return str(dice.roll(-reach, reach) if dice.roll(1, 30) > 1 else dice.roll(-2000, 2000))

    def row(self, dice):
        word = dice.mixed(("put",) * 5 + ("take", "lift", "sink", "back", "deeds", "gates", "through", "steepest",
                                          "flattest", "runs", "most", "passed"))[0]
        if word == "passed":
            height = "%s/%d" % (self.number(dice, 20), dice.roll(0, 9))
            return "passed %s %s/%d" % (height, self.number(dice, 9), dice.roll(-1, 9))
        many = {"put": 3, "take": 1, "lift": 3, "sink": 3, "back": dice.roll(0, 1)}.get(word, 0)
        if word in ("through", "steepest", "flattest"):
            many = dice.roll(0, 4)
        return " ".join([word] + [self.number(dice, 7) for step in range(many)])

    def spoiled(self, dice, row):
        spot = dice.roll(0, len(row))
        sign = dice.mixed(" -/0+1x~")[0]
        return row[:spot] + sign + row[spot + dice.roll(0, 1):]

    def test_long_talks(self):
        seen = set()
        for seed in range(5):
            dice, desk, beach, rows, told = Dice(seed + 40), Desk(), Beach(), [], []
            for step in range(700):
                row = self.row(dice)
                if dice.roll(1, 4) == 1:
                    row = self.spoiled(dice, row)
                rows.append(row)
                told.append(plain_answer(beach, row))
                self.check(desk, row, told[-1])
                seen.add(told[-1] if told[-1].startswith("refused") else told[-1].split(" ")[0])
            self.assertEqual(answers(rows), told)
        for word in ("NoGate", "Taken", "UpsideDown", "OutOfBounds", "NothingBack", "BadList", "TooFew", "BadThrow"):
            self.assertIn("refused: " + WORDS[word], seen)
        for word in ("gate", "deeds", "gates", "throw", "bar", "runs", "most", "passed", BAD):
            self.assertIn(word, seen)

    def test_answers_about_many_lists(self):
        for gates in many_lists(1, 14, 1, 112) + many_lists(40, 40, 1, 113):
            desk = self.desk(["put %d %d %d" % gate for gate in gates])
            beach = beach_of(Beach(), gates)
            places = " ".join(str(gate[0]) for gate in gates)
            for row in ("gates", "runs", "most", "through " + places, "steepest " + places, "flattest " + places):
                self.check(desk, row, plain_answer(beach, row))


if __name__ == "__main__":
    unittest.main()
