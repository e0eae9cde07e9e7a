"""Desks: a base, drafts on it, a merge, and a history of deeds."""

from piercednames.answers import answer
from piercednames.deeds import Situation, after_deeds
from piercednames.errors import BadJournal, InvalidNumber, Missing, NamesError, NoMerge, NothingLeft
from piercednames.journals import read_deeds
from piercednames.texts import read_text
from piercednames.words import is_number

FIRST_STEPS = 300
MOST_STEPS = 2000


class Desk:
    """Keeps a base, drafts, a merge and a journal, undoes and redoes, and answers lines."""

    def __init__(self):
        self._present = Situation(read_text(""), {}, None, [])
        self._past = []
        self._future = []
        self._log = []
        self._steps = FIRST_STEPS

    @staticmethod
    def replay(text):
        """The desk that does the deeds of a journal, each in a call of its own."""
        desk = Desk()
        pairs, wrong = read_deeds(text)
        for line, deed in pairs:
            try:
                desk.do(deed)
            except (NamesError, Missing):
                raise BadJournal(line)
        if wrong is not None:
            raise BadJournal(wrong)
        return desk

    @property
    def base(self):
        """The program on which drafts begin."""
        return self._present.ground

    @property
    def steps(self):
        """How many steps a run for out does at most."""
        return self._steps

    @steps.setter
    def steps(self, value):
        self.change_steps(value)

    def change_steps(self, value):
        """Sets how many steps a run for out does at most."""
        if not is_number(value, 1, MOST_STEPS):
            raise InvalidNumber(value)
        self._steps = value

    def do(self, *deeds):
        """Does deeds, all or none."""
        present = after_deeds(self._present, deeds)
        if deeds:
            self._past.append(self._present)
            self._future = []
            self._present = present

    def tried(self, *deeds):
        """The journal that the desk would have behind some deeds."""
        return "".join(after_deeds(self._present, deeds).texts)

    def undo(self):
        """Takes the last step back."""
        if not self._past:
            raise NothingLeft()
        self._future.append(self._present)
        self._present = self._past.pop()

    def redo(self):
        """Does the step again that was taken back last."""
        if not self._future:
            raise NothingLeft()
        self._past.append(self._present)
        self._present = self._future.pop()

    def history(self):
        """The pair of the numbers of steps that can be undone and redone."""
        return (len(self._past), len(self._future))

    def people(self):
        """The ascending list of the people with drafts."""
        return sorted(self._present.drafts)

    def draft(self, person):
        """A twin of the draft of a person."""
        return self._present.draft_of(person).twin()

    def held_merge(self):
        """A twin of the merge, None without one."""
        return None if self._present.merge is None else self._present.merge.twin()

    def journal(self):
        """The text of the deeds that have led to this state."""
        return "".join(self._present.texts)

    def ask(self, line):
        """The answer to a string."""
        told = self._answered(line)
        self._log.append((line, told))
        return told

    def _answered(self, line):
        try:
            if line == "undo":
                self.undo()
                return "done"
            if line == "redo":
                self.redo()
                return "done"
            return answer(self._present, line, self._steps)
        except (NoMerge, NothingLeft) as error:
            return f"error {error.code}"

    def log(self):
        """The list of the pairs (line, answer)."""
        return list(self._log)

    def twin(self):
        """An independent desk in the same state, with its history, log and steps."""
        other = Desk()
        other._present = self._present
        other._past = list(self._past)
        other._future = list(self._future)
        other._log = list(self._log)
        other._steps = self._steps
        return other

    def __call__(self, line):
        return self.ask(line)

    def __eq__(self, other):
        return isinstance(other, Desk) and self._present.texts == other._present.texts

    def __len__(self):
        return len(self._present.texts)

    def __bool__(self):
        return True

    def __str__(self):
        return "".join(self._present.texts)

    def __repr__(self):
        return f"Desk({len(self._present.texts)} deeds)"
