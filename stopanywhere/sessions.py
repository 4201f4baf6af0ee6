"""Sessions: runs that are led forth and back, and stopped anywhere."""

from stopanywhere.errors import BadDepth, BadMost, BadWalk, NotNow, NotTold
from stopanywhere.picturing import pictured_end
from stopanywhere.reporting import told_alone, told_moment, told_worths
from stopanywhere.rooting import collected_state, reached_in
from stopanywhere.runner import Codes, state_of
from stopanywhere.values import is_number, is_number_between

# A state is kept behind so many steps; those between are come to from the one ahead.
KEPT_EACH = 32
MOST_QUIET = 20000


class Session:
    """A run of a function that is led forth and back, and whose boxes are moved."""

    def __init__(self, codes, function, arguments):
        if not isinstance(codes, Codes):
            raise BadWalk("no codes")
        first = codes.begin(function, arguments)
        self._codes = codes
        self._result = codes.scope.gives(function)
        # Pairs of a number of steps and the state there, ascending, and the present one's machine.
        self._kept = [(0, first)]
        self._take_up(0, first)

    def _take_up(self, at, state):
        self._steps = at
        self._machine = self._codes.machine_at(state)
        self._passed = state[4]

    def at(self):
        """How many steps are done."""
        return self._steps

    def state(self):
        """The present state."""
        return state_of(self._machine, self._passed)

    def events(self):
        """How many events there were."""
        return self._passed

    def outputs(self):
        """The list of the numbers shown so far."""
        return list(self._machine.shown)

    def end(self):
        """The end; cut ahead of it."""
        return pictured_end(self._machine.end_told, self._result, self._codes.scope, self._machine.heap)

    def forth(self, many):
        """Does so many steps, fewer if the end comes; how many it did."""
        _check_most(many)
        first = self._steps
        self._go_forth(many)
        return self._steps - first

    def _go_forth(self, many):
        for _ in range(many):
            if self._machine.end_told is not None:
                return
            self._passed += self._machine.pass_one()
            self._steps += 1
            if self._steps - self._kept[-1][0] == KEPT_EACH:
                self._kept.append((self._steps, self.state()))

    def back(self, many):
        """Undoes so many steps, fewer if the beginning comes; how many it undid."""
        _check_most(many)
        done = min(many, self._steps)
        self._go_back_to(self._steps - done)
        return done

    def _go_back_to(self, at):
        """Goes to a state that was there, from the one that is kept ahead of it."""
        if at == self._steps:
            return
        while self._kept[-1][0] > at:
            self._kept.pop()
        first, state = self._kept[-1]
        self._take_up(first, state)
        self._go_forth(at - first)

    def to_events(self, many):
        """Goes to the first state with so many events; whether there is one, it stays if not."""
        _check_most(many)
        return self.lead_to(many)

    def lead_to(self, many):
        """The same for any number of events."""
        if many <= self._passed:
            # States of the way here that are kept have ascending numbers of events.
            ahead = [pair for pair in self._kept if pair[1][4] < many]
            first, state = ahead[-1] if ahead else self._kept[0]
        else:
            first, state = self._steps, self.state()
        steps = _steps_to_events(self._codes.machine_at(state), state[4], many)
        if steps is None:
            return False
        if first + steps <= self._steps:
            self._go_back_to(first + steps)
        else:
            self._go_forth(steps)
        return True

    def moment(self):
        """The present moment, as the tables tell it."""
        self._check_now()
        return told_moment(self._codes, self._machine)

    def told(self):
        """The list of the frames, each with the dict of what is told of its variables."""
        self._check_now()
        found, _ = told_worths(self._codes, self._machine)
        return found

    def _check_now(self):
        if self._machine.end_told is not None:
            raise NotNow("end")

    def reached(self):
        """The addresses of the boxes that are still wanted."""
        return reached_in(self._codes, self.state())

    def move(self, addresses):
        """Moves these boxes to other addresses, and lets all others go."""
        state = collected_state(self._codes, self.state(), addresses)
        if self._kept[-1][0] == self._steps:
            self._kept.pop()
        self._kept.append((self._steps, state))
        self._take_up(self._steps, state)

    def last_other(self, depth, name):
        """Goes back to the last state in which a frame told a variable otherwise; how many steps lead there."""
        told = [] if self._machine.end_told is not None else told_worths(self._codes, self._machine)[0]
        if not is_number(depth) or not 0 <= depth < len(told):
            raise BadDepth("no number of a frame that is told")
        worths = told[depth][2]
        if not isinstance(name, str) or worths.get(name, ("lost",)) == ("lost",):
            raise NotTold(name)
        present = told_alone(self._codes, self._machine, depth, name)
        behind = self._steps
        for first, state in reversed(list(self._kept)):
            for at, alone in self._told_from(first, state, behind, depth, name):
                if alone == ():
                    return None
                if alone is not None and alone != present:
                    self._go_back_to(at)
                    return at
            behind = first
        return None

    def _told_from(self, first, state, behind, depth, name):
        """What a variable's pictures were at the steps from one on to one ahead of another, the last step first."""
        machine = self._codes.machine_at(state)
        found = []
        for at in range(first, behind):
            found.append((at, told_alone(self._codes, machine, depth, name)))
            machine.advance()
        return list(reversed(found))


def _steps_to_events(machine, events, many):
    """How many steps lead to the first state with so many events, None if there is none."""
    steps = 0
    quiet = 0
    while events < many:
        if machine.end_told is not None or quiet == MOST_QUIET:
            return None
        told = machine.pass_one()
        events += told
        steps += 1
        quiet = 0 if told else quiet + 1
    return steps if events == many else None


def _check_most(many):
    if not is_number_between(many, 0, 20000):
        raise BadMost("no number from 0 to 20000")


def led(codes, function, arguments, most):
    """The outputs, the end and the dict of the moments, by numbers of events, of a run of at most so many steps."""
    session = Session(codes, function, arguments)
    _check_most(most)
    moments = {}
    done = 1
    while done == 1 and session.end() == ("cut",):
        if session.events() not in moments:
            moments[session.events()] = session.moment()
        done = session.forth(1) if session.at() < most else 0
    return session.outputs(), session.end(), moments
