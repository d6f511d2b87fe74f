"""[300] to [304]: the journal."""

import unittest

from planeworth.desk import Desk
from planeworth.errors import BadJournal, OpenTrial
from planeworth.journal import Journal, attempt, resume
from tests.helpers import Refusals

LINES = ["make a 2 1,0,0 0,1,0 1,1,1", "poly a", "", " a  b ", "show b", "point p 2 1/2,1/3", "row a p", "drop p", "show p", "make a 3",
         "> show a", "rooms a", "sum s a 0 1/2 -", "plus s s s", "show s", "~!@#", "make n 2 2,4,6"]
AFTER = ["show a", "make b 1 1,0", "rooms b", "decide s s", "drop a", "web b", "show a"]
NOT_RECORDED = ["a\nb", "a\tb", "show a\n", "\u00e9", "show a\x7f", "\r", "a\u2028b", "\x00", "show a \u00a0"]


def journal(lines=()):
    found = Journal()
    for line in lines:
        found.answer(line)
    return found


def record_of(lines):
    """The record of lines, by a desk of its own."""
    return "".join(f"> {line}\n< {answer}\n" for line, answer in zip(lines, Desk().answers(list(lines))))


RECORD = record_of(LINES)


class TestRecords(unittest.TestCase, Refusals):

    def same(self, found, lines):
        """The journal has just these lines, and goes on as a desk that was asked them."""
        self.assertEqual(found.lines(), list(lines))
        self.assertEqual(found.record(), record_of(lines))
        other = Desk()
        other.answers(list(lines))
        for line in AFTER:
            self.assertEqual(found.answer(line), other.answer(line))
        self.assertEqual(found.record(), record_of(list(lines) + AFTER))

    def test_answers_and_records(self):
        found = Journal()
        self.assertEqual((found.record(), found.lines()), ("", []))
        due = Desk().answers(LINES)
        for k, line in enumerate(LINES):
            self.assertEqual(found.answer(line), due[k])
            self.assertEqual(found.record(), record_of(LINES[:k + 1]))
            self.assertEqual(found.lines(), LINES[:k + 1])
        self.assertEqual(found.record().count("\n"), 2 * len(LINES))
        self.same(found, LINES)

    def test_a_desk_of_its_own(self):
        one, other = Journal(), Journal()
        one.answer("make a 2")
        self.assertEqual(other.answer("show a"), "unknown a")

    def test_lines_that_cannot_be_recorded(self):
        found = journal(LINES)
        for line in NOT_RECORDED:
            self.assertEqual(found.answer(line), "bad")
            self.assertEqual((found.lines(), found.record()), (LINES, RECORD))
        self.same(found, LINES)

    def test_lists_may_be_changed(self):
        found = journal(LINES)
        found.lines().clear()
        self.assertEqual(found.lines(), LINES)


class TestResume(unittest.TestCase, Refusals):

    def test_cut_off_at_each_place(self):
        for cut in range(len(RECORD) + 1):
            found = resume(RECORD[:cut])
            pairs = RECORD[:cut].count("\n") // 2
            self.assertEqual(found.lines(), LINES[:pairs])
            self.assertEqual(found.record(), record_of(LINES[:pairs]))
            if cut % 9 == 0 or cut > len(RECORD) - 3:
                due = Desk().answers(LINES + AFTER)[pairs:]
                self.assertEqual([found.answer(line) for line in LINES[pairs:] + AFTER], due)
                self.assertEqual(found.record(), record_of(LINES + AFTER))

    def test_the_last_of_an_odd_number_is_not_passed_on(self):
        found = resume("> make a 2\n< 0\n> drop a\n")
        self.assertEqual(found.record(), "> make a 2\n< 0\n")
        self.assertEqual(found.answer("show a"), "2")
        self.assertEqual(resume("> make a 2\n").record(), "")
        self.assertEqual(resume("> make a 2\n").answer("show a"), "unknown a")
        self.assertEqual(resume("> make a 2\n").answer("make a 3"), "0")

    def test_what_stands_behind_the_last_newline(self):
        for rest in ("x", "> ", "<", "\u00e9", "> \t", "bad", "< 0"):
            self.assertEqual(resume("> make a 2\n< 0\n" + rest).lines(), ["make a 2"])
            self.assertEqual(resume(rest).record(), "")
            self.assertEqual(resume("> make a 2\n" + rest).record(), "")
        self.assertEqual(resume("").record(), "")

    def bad(self, text, row):
        self.assertEqual(self.told(BadJournal, resume, text).row, row)

    def test_wrong_heads(self):
        rows = RECORD.split("\n")[:-1]
        for at, row in enumerate(rows):
            for wrong in ("", ">", "<", row[1:], " " + row, row[:1] + row[2:], ("> " if at % 2 else "< ") + row[2:], ">" + row, "x" + row[1:]):
                if wrong != row and not (at % 2 == 0 and wrong.startswith("> ")):
                    self.bad("\n".join(rows[:at] + [wrong] + rows[at + 1:]) + "\n", at)
                    # Also as the last row, of an odd or an even number.
                    self.bad("\n".join(rows[:at] + [wrong]) + "\n", at)

    def test_other_answers(self):
        rows = RECORD.split("\n")[:-1]
        for at in range(1, len(rows), 2):
            for wrong in (rows[at] + " ", rows[at] + "x", "< ", "< nothing", rows[at][:-1], rows[at].upper() + "A"):
                if wrong != rows[at]:
                    self.bad("\n".join(rows[:at] + [wrong] + rows[at + 1:]) + "\n", at)
                    self.bad("\n".join(rows[:at] + [wrong]) + "\n", at)

    def test_rows_of_lines_that_cannot_be_recorded(self):
        rows = RECORD.split("\n")[:-1]
        for line in NOT_RECORDED:
            if "\n" not in line:
                for at in range(0, len(rows), 2):
                    self.bad("\n".join(rows[:at] + [f"> {line}"] + rows[at + 1:]) + "\n", at)
                    self.bad("\n".join(rows[:at] + [f"> {line}"]) + "\n", at)
                    self.bad("\n".join(rows[:at] + [f"> {line}", "< bad"]) + "\n", at)
        self.bad("> \u00e9\n", 0)
        self.bad("\n", 0)
        self.bad("> make a 2\n< 0\n\n", 2)
        self.bad("> make a 2\n\n", 1)
        self.bad("> make a 2\r\n< 0\r\n", 0)
        # A line of its own that is empty or malformed can be recorded.
        self.assertEqual(resume("> \n< bad\n").lines(), [""])
        self.bad("> \n< \n", 1)

    def test_the_first_wrong_row(self):
        self.bad("> make a 2\n< 1\n< x\n", 1)
        self.bad("> make a 2\n< 1\n> \u00e9\n", 1)
        self.bad("> make a 2\n> make a 2\n> \u00e9\n", 1)
        self.bad("> make a 2\n< 0\n> show b\n< 2\n> x", 3)
        self.bad("< 0\n> make a 2\n", 0)

    def test_an_answer_by_the_lines_before(self):
        text = "> make a 2\n< 0\n> show a\n< 2\n"
        self.assertEqual(resume(text).record(), text)
        self.bad("> show a\n< 2\n", 1)

    def test_a_resumed_journal_goes_on(self):
        found = resume(RECORD)
        found.answer("make z 4")
        self.assertEqual(resume(found.record()).record(), found.record())
        with found as trial:
            trial.answer("drop z")
        self.assertEqual(found.answer("show z"), "4")


class TestTrials(unittest.TestCase, Refusals):

    def same(self, found, lines):
        self.assertEqual((found.lines(), found.record()), (list(lines), record_of(lines)))
        other = Desk()
        other.answers(list(lines))
        self.assertEqual([found.answer(line) for line in AFTER], other.answers(AFTER))

    def test_not_kept(self):
        found = journal(LINES)
        with found as trial:
            self.assertIs(trial, found)
            for line in ("drop a", "make s 1", "make new 2", "show a"):
                trial.answer(line)
            self.assertEqual(found.record(), record_of(LINES + ["drop a", "make s 1", "make new 2", "show a"]))
        self.assertEqual(found.answer("show new"), "unknown new")
        self.same(journal(LINES), LINES)
        found = journal(LINES)
        with found:
            found.answer("drop a")
        self.same(found, LINES)

    def test_kept(self):
        for before in (True, False):
            found = journal(LINES)
            with found as trial:
                if before:
                    trial.keep()
                trial.answer("drop a")
                if not before:
                    trial.keep()
                    trial.keep()
                trial.answer("make new 2")
            self.same(found, LINES + ["drop a", "make new 2"])

    def test_left_by_an_exception(self):
        for keep in (True, False):
            found = journal(LINES)
            with self.assertRaises(ZeroDivisionError):
                with found as trial:
                    trial.answer("drop a")
                    if keep:
                        trial.keep()
                    raise ZeroDivisionError
            self.same(found, LINES)

    def test_a_trial_behind_another_one(self):
        found = journal(LINES)
        with found as trial:
            trial.answer("drop a")
            trial.keep()
        with found as trial:
            trial.answer("drop s")
        with found as trial:
            trial.answer("make new 2")
            trial.keep()
        self.same(found, LINES + ["drop a", "make new 2"])

    def test_keep_counts_for_its_own_trial(self):
        found = journal()
        with self.assertRaises(KeyError):
            with found as trial:
                trial.answer("make a 2")
                trial.keep()
                raise KeyError
        with found as trial:
            trial.answer("make b 2")
        self.assertEqual(found.lines(), [])

    def test_no_other_trial_while_one_is_open(self):
        for keep in (True, False):
            found = journal(LINES)
            with found as trial:
                trial.answer("drop a")
                with self.assertRaises(OpenTrial):
                    with found:
                        raise AssertionError
                self.told(OpenTrial, attempt, found, ["make z 2"])
                self.assertEqual(trial.answer("show a"), "unknown a")
                self.assertEqual(found.lines(), LINES + ["drop a", "show a"])
                if keep:
                    trial.keep()
            self.same(found, LINES + ["drop a", "show a"] if keep else LINES)
        # Not caught, it leaves the outer statement.
        found = journal(LINES)
        with self.assertRaises(OpenTrial):
            with found as trial:
                trial.answer("drop a")
                trial.keep()
                with found:
                    pass
        self.same(found, LINES)

    def test_trials_of_several_journals(self):
        one, other = journal(LINES), journal()
        with one as first, other as second:
            first.answer("drop a")
            second.answer("make a 4")
            second.keep()
        self.same(one, LINES)
        self.same(other, ["make a 4"])

    def test_keep_outside_of_a_trial(self):
        found = journal(LINES)
        self.told(OpenTrial, found.keep)
        with found:
            pass
        self.told(OpenTrial, found.keep)
        with found as trial:
            trial.keep()
        self.told(OpenTrial, found.keep)
        with self.assertRaises(KeyError):
            with found:
                raise KeyError
        self.told(OpenTrial, found.keep)
        self.same(found, LINES)

    def test_lines_that_cannot_be_recorded(self):
        for keep in (True, False):
            found = journal(LINES)
            answers, record = attempt(found, NOT_RECORDED + ["show a"], keep=keep)
            self.assertEqual(answers, ["bad"] * len(NOT_RECORDED) + ["3"])
            self.assertEqual(record, record_of(LINES + ["show a"]))
            self.same(found, LINES + ["show a"] if keep else LINES)

    def test_attempt(self):
        lines = ["drop a", "make s 1", "show s", ""]
        for keep in (True, False):
            found = journal(LINES)
            due = Desk().answers(LINES + lines)[len(LINES):]
            result = attempt(found, lines, keep=keep)
            self.assertIsInstance(result, tuple)
            self.assertEqual(result, (due, record_of(LINES + lines)))
            self.assertEqual(lines, ["drop a", "make s 1", "show s", ""])
            self.same(found, LINES + lines if keep else LINES)
        found = journal(LINES)
        self.assertEqual(attempt(found, lines), (due, record_of(LINES + lines)))
        self.same(found, LINES)
        self.assertEqual(attempt(Journal(), []), ([], ""))
        self.assertRaises(TypeError, attempt, Journal(), [], True)

    def test_attempts_one_after_the_other(self):
        found = Journal()
        for k in range(4):
            attempt(found, [f"make {'abcd'[k]} 1"], keep=k % 2 == 0)
        self.assertEqual(found.lines(), ["make a 1", "make c 1"])


if __name__ == "__main__":
    unittest.main()
