"""Runs of programs, and sessions, in which a run is watched."""

from restruct.errors import NoSuchLabel
from restruct.expressions import evaluate
from restruct.scopes import scopes_of
from restruct.signs import EXIT
from restruct.structuring import structured

# As many nodes are executed by one call at the most.
MOST_STEPS = 1000
ALWAYS = ("number", 1)


def run(program, inputs, *, steps=MOST_STEPS):
    """The state of a run of a program after at most so many steps."""
    course = Course(program, inputs)
    while course.status() is None and len(course.executed) < min(steps, MOST_STEPS):
        course.execute()
    return course.state()


class Course:
    """A run as far as it has come; what was executed can be taken back."""

    def __init__(self, program, inputs):
        self.program = program
        self.place = program.entry
        self.variables = dict(inputs)
        self.prints = []
        self.executed = []
        # For each executed node, the value that its variable had before, or None.
        self.former = []
        self.has_overflow = False

    def state(self):
        """The tuple (label, variables, prints, steps, status)."""
        label = None if self.place == EXIT else self.place
        variables = tuple(sorted(self.variables.items()))
        return label, variables, tuple(self.prints), len(self.executed), self.status()

    def status(self):
        """Says how the run was finished; None if it is not."""
        if self.has_overflow:
            return "overflow"
        return "exited" if self.place == EXIT else None

    def execute(self):
        """Executes a node; does nothing if the run is finished."""
        if self.status() is not None:
            return
        label, deed, targets = self.program.node(self.place)
        value = evaluate(deed[-1], self.variables)
        if value is None:
            self.has_overflow = True
            return
        self.executed.append(label)
        self.former.append(self.variables.get(deed[1]) if deed[0] == "set" else None)
        if deed[0] == "set":
            self.variables[deed[1]] = value
        elif deed[0] == "print":
            self.prints.append(value)
        self.place = targets[1] if deed[0] == "if" and value == 0 else targets[0]

    def take_back(self):
        """Takes back an overflow, or else the last executed node, if there is one."""
        if self.has_overflow:
            self.has_overflow = False
        elif self.executed:
            self.place = self.executed.pop()
            before = self.former.pop()
            _, deed, _ = self.program.node(self.place)
            if deed[0] == "print":
                self.prints.pop()
            elif before is not None:
                self.variables[deed[1]] = before
            elif deed[0] == "set":
                del self.variables[deed[1]]


class Session:
    """A run that is watched, with breakpoints: conditions by labels."""

    def __init__(self, program, inputs, breakpoints):
        self.course = Course(program, inputs)
        self.breakpoints = dict(breakpoints)

    def __iter__(self):
        return iter(self.course.executed)

    def state(self):
        """The state of the run."""
        return self.course.state()

    def step(self):
        """Executes one node."""
        self.course.execute()
        return self.state()

    def back(self):
        """Takes back what was done last."""
        self.course.take_back()
        return self.state()

    def resume(self):
        """Goes on to a label with a breakpoint whose condition has a value other than 0."""
        return self._go_on(self.breakpoints)

    def run_to(self, label):
        """Goes on to a label of the program."""
        if label not in self.course.program:
            raise NoSuchLabel(f"the program does not have the label {label}")
        return self._go_on({label: ALWAYS})

    def step_over(self):
        """Goes on to a label outside of the branches of the conditional at which the session is."""
        return self._go_outside(self._scopes(), ("if", self.course.place))

    def step_out(self):
        """Goes on to a label outside of the innermost statement around the node at which the session is."""
        scopes = self._scopes()
        around = scopes.get(self.course.place, ())
        if not around:
            return self._go_on({})
        return self._go_outside(scopes, around[-1])

    def _scopes(self):
        """A dict from the labels of the program to what is around them in the form without jumps."""
        body = structured(self.course.program)
        return {label: scopes_of(body, label) for label in self.course.program}

    def _go_outside(self, scopes, statement):
        """Goes on to a label that is not within a statement, by what is around each label."""
        return self._go_on({label: ALWAYS for label in scopes if statement not in scopes[label]})

    def _go_on(self, conditions):
        """Executes a node and goes on to a label for which a condition has a value other than 0."""
        course = self.course
        for _ in range(MOST_STEPS):
            course.execute()
            if course.status() is not None:
                break
            condition = conditions.get(course.place)
            if condition is not None and evaluate(condition, course.variables) not in (None, 0):
                break
        return course.state()
