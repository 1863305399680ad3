"""Learners: what is left of a wiring behind answers, passing over inputs that tell nothing."""

from moveseen.answers import wirings_among
from moveseen.errors import MoveError
from moveseen.families import check_source, settled_outputs, symbol_shown
from moveseen.plans import plan_inputs


class NoInput(MoveError):
    """An answer where no input is next."""


class NoOutput(MoveError):
    """An output that the family has not."""


class NoWiring(MoveError):
    """An event that would leave no wiring."""


class NothingToUndo(MoveError):
    """No event that could be taken back."""


class BadEvent(MoveError):
    """The number of the first event that cannot be taken."""

    def __init__(self, number):
        self.number = number


class Learner:
    """The sources that are left for each output, and the events that left them."""

    def __init__(self, family):
        self._family = family
        self._plan = plan_inputs(family)
        self._events = []
        # What was left ahead of all events, and behind each of them.
        self._stages = [(family.sources,) * family.outputs]

    def inputs(self):
        """The inputs of the plan."""
        return self._plan

    def next_input(self):
        """The first input that was not answered and does not tell nothing; None if there is none."""
        # An input that was answered tells nothing: all that is left shows the answer for it.
        for given in self._plan:
            if self._tells(given):
                return given
        return None

    def answer(self, output):
        """Takes what the outputs show for the next input; returns how many wirings are left."""
        given = self.next_input()
        if given is None:
            raise NoInput("nothing is asked for next")
        shown = settled_outputs(self._family, [given], [output])[0]
        kept = []
        for sources, symbol in zip(self.left(), shown):
            kept.append(tuple(source for source in sources if self._shows(source, given) == symbol))
        return self._take(("answer", shown), tuple(kept))

    def rule_out(self, output, source):
        """Takes it that an output does not have a source; returns how many wirings are left."""
        if not 0 <= output < self._family.outputs:
            raise NoOutput(f"there is no output {output}")
        settled = check_source(self._family, source)
        kept = list(self.left())
        kept[output] = tuple(other for other in kept[output] if other != settled)
        return self._take(("rule out", output, settled), tuple(kept))

    def undo(self):
        """Takes the last event back, and returns it."""
        if not self._events:
            raise NothingToUndo("no event is left to take back")
        self._stages.pop()
        return self._events.pop()

    def left(self):
        """For each output the tuple of the sources that are left, in order."""
        return self._stages[-1]

    def wiring_count(self):
        """How many wirings are left."""
        return wirings_among(self.left())

    def sure(self):
        """For each output its source if one alone is left, otherwise None."""
        return tuple(sources[0] if len(sources) == 1 else None for sources in self.left())

    def events(self):
        """The tuple of the events that were taken and not taken back."""
        return tuple(self._events)

    def _shows(self, source, given):
        return symbol_shown(self._family, source, given)

    def _tells(self, given):
        """True if some output can show different symbols for an input."""
        for sources in self.left():
            if any(self._shows(source, given) != self._shows(sources[0], given) for source in sources):
                return True
        return False

    def _take(self, event, left):
        if any(not sources for sources in left):
            raise NoWiring("no wiring would be left")
        self._stages.append(left)
        self._events.append(event)
        return self.wiring_count()


def replayed(family, events):
    """A learner that took these events."""
    learner = Learner(family)
    for number, event in enumerate(events):
        try:
            _take_event(learner, event)
        except MoveError:
            raise BadEvent(number) from None
    return learner


def _take_event(learner, event):
    if event[0] == "answer":
        learner.answer(event[1])
    else:
        learner.rule_out(event[1], event[2])
