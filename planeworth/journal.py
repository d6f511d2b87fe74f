"""The journal: a desk with a record of its lines and answers, and trials that may be taken back."""

from planeworth.desk import Desk
from planeworth.errors import BadJournal, OpenTrial

LINE_MARK = "> "
ANSWER_MARK = "< "


def can_record(line):
    """Whether all characters of a line are from the space to ~."""
    return all([" " <= letter <= "~" for letter in line])


class Journal:
    """A desk of its own, and what it was asked and has answered."""

    def __init__(self):
        self._desk = Desk()
        self._lines = []
        self._answers = []
        # What stood at the beginning of the open trial; None if no trial is open.
        self._old_desk = None
        self._old_lines = None
        self._old_answers = None
        self._kept = None

    def answer(self, line):
        """The answer to a line; both are recorded, if the line can be."""
        if not can_record(line):
            return "bad"
        told = self._desk.answer(line)
        self._lines.append(line)
        self._answers.append(told)
        return told

    def lines(self):
        """The list of the recorded lines."""
        return list(self._lines)

    def record(self):
        """The text with two rows for each recorded line."""
        rows = [f"{LINE_MARK}{line}\n{ANSWER_MARK}{told}\n" for line, told in zip(self._lines, self._answers)]
        return "".join(rows)

    def keep(self):
        """Keep what is answered in the open trial."""
        if self._old_desk is None:
            raise OpenTrial("no trial has begun")
        self._kept = True

    def __enter__(self):
        if self._old_desk is not None:
            raise OpenTrial("a trial has not ended")
        self._old_desk = self._desk.copied()
        self._old_lines = list(self._lines)
        self._old_answers = list(self._answers)
        return self

    def __exit__(self, kind, value, trace):
        if kind is not None or self._kept is None:
            self._desk = self._old_desk
            self._lines = self._old_lines
            self._answers = self._old_answers
        self._old_desk = None
        self._kept = None


def attempt(journal, lines, *, keep=False):
    """Answer lines in a trial; the pair of the answers and the record at its end."""
    with journal as trial:
        answers = [trial.answer(line) for line in lines]
        if keep:
            trial.keep()
        told = (answers, trial.record())
    return told


def resume(text):
    """A journal that goes on from a record."""
    journal = Journal()
    rows = text.split("\n")[:-1]
    for at in range(0, len(rows), 2):
        line = rows[at][len(LINE_MARK):]
        if not rows[at].startswith(LINE_MARK) or not can_record(line):
            raise BadJournal(at)
        if at + 1 < len(rows) and rows[at + 1] != ANSWER_MARK + journal.answer(line):
            raise BadJournal(at + 1)
    return journal
