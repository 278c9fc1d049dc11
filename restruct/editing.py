"""Desks, at which a program is edited, with notes and breakpoints."""

from restruct.drafts import Draft
from restruct.errors import CannotApply, NotReducible
from restruct.expressions import expression_text
from restruct.programs import Program, checked_program
from restruct.runs import MOST_STEPS, Session, run
from restruct.statements import body_text
from restruct.structuring import structured

MOST_CHANGES = 50


class Desk:
    """A program with notes and breakpoints, and what was and will be instead of them.

    Each of these is a tuple of the program and two dicts by its labels, in order, which are never
    changed: so what a trial or the history has kept stays as it is.
    """

    def __init__(self, text):
        self.now = (Program.parse(text), {}, {})
        self.past = ()
        self.future = ()

    @property
    def present(self):
        """The program."""
        return self.now[0]

    @property
    def depth(self):
        """The pair of the numbers of changes that can be undone and redone."""
        return len(self.past), len(self.future)

    def remarks(self):
        """The tuple of the pairs (label, note), in order."""
        return tuple(self.now[1].items())

    def stops(self):
        """The tuple of the pairs (label, normal text of the condition), in order."""
        return tuple([(label, expression_text(condition)) for label, condition in self.now[2].items()])

    def structured_text(self):
        """The normal text of the program without jumps, or None if it is not reducible."""
        try:
            return body_text(structured(self.present))
        except NotReducible:
            return None

    def load(self, text):
        """Replaces the program by that of a source; gives the labels that are added and removed."""
        return self._change(Program.parse(text), self.now[1], self.now[2])

    def edit(self, commands):
        """Applies commands to the program; gives the labels that are added and removed."""
        draft = Draft(self.present, self.now[1], self.now[2])
        for index, command in enumerate(commands):
            if not draft.apply(command):
                raise CannotApply(index)
        return self._change(checked_program(draft.entry, draft.nodes), draft.notes, draft.breakpoints)

    def undo(self):
        """Takes back the last change; tells whether there was one."""
        if not self.past:
            return False
        self.future = (*self.future, self.now)
        self.now = self.past[-1]
        self.past = self.past[:-1]
        return True

    def redo(self):
        """Makes the change that was undone last; tells whether there was one."""
        if not self.future:
            return False
        self.past = (*self.past, self.now)
        self.now = self.future[-1]
        self.future = self.future[:-1]
        return True

    def tried(self):
        """A trial: a "with" statement of it leaves the desk as it is now."""
        return Trial(self)

    def foresee(self, commands):
        """The pair of what an edit would give and the normal text of its program."""
        with self.tried():
            change = self.edit(commands)
            return change, self.present.text

    def run(self, inputs, *, steps=MOST_STEPS):
        """The state of a run of the program after at most so many steps."""
        return run(self.present, inputs, steps=steps)

    def session(self, inputs):
        """A session of the program with the breakpoints."""
        return Session(self.present, inputs, self.now[2])

    def _change(self, program, notes, breakpoints):
        """Makes a change to a program, keeping the notes and breakpoints of its labels."""
        before = self.present
        self.past = (*self.past, self.now)[-MOST_CHANGES:]
        self.future = ()
        self.now = (program, _kept(notes, program), _kept(breakpoints, program))
        return _labels_beyond(program, before), _labels_beyond(before, program)


class Trial:
    """Keeps what a desk has, and gives it back when a "with" statement ends."""

    def __init__(self, desk):
        self.desk = desk
        self.now = desk.now
        self.past = desk.past
        self.future = desk.future

    def __enter__(self):
        return self.desk

    def __exit__(self, kind, value, trace):
        desk = self.desk
        desk.now = self.now
        desk.past = self.past
        desk.future = self.future


def _kept(table, program):
    """What a dict has for the labels of a program, in order."""
    return {label: table[label] for label in program if label in table}


def _labels_beyond(program, other):
    """The tuple of the labels of a program that another one does not have."""
    return tuple([label for label in program if label not in other])
