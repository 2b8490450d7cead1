"""One phase less: arrivals against each scheduler that makes only as many phases as copies (7.1, 7.2)."""

from exactbeats.cells import cells, check_most, copies, is_arrivals, is_copy
from exactbeats.errors import BadScheduler
from exactbeats.ideal import Ideal, ideal_beats
from exactbeats.kinds import all_unlike, is_number_below, is_tuple_of


def first_coming(most):
    """The arrivals of beat 0."""
    arrival = (0, 0, tuple(range(most)))
    return tuple([arrival if line <= most else None for line in range(2 * most)])


def later_coming(most, victim):
    """The arrivals of each later beat."""
    arrival = (0, 0, tuple(range(most, 2 * most)))
    return tuple([arrival if line == victim else None for line in range(2 * most)])


def arrivals_up_to(most, victim, beat):
    """The arrivals of the beats up to this one, both ends counted."""
    return (first_coming(most),) + (later_coming(most, victim),) * beat


def may_go_over(view, thing):
    """Whether a thing is what a scheduler may give for a view."""
    if not isinstance(thing, tuple):
        return False
    line_of = {copy: line for line, waiting in enumerate(view) for copy in waiting}
    for copy in thing:
        if not is_copy(copy) or copy not in line_of:
            return False
    return all_unlike([line_of[copy] for copy in thing]) and all_unlike([output for _, output in thing])


def without(waiting, going):
    return tuple([copy for copy in waiting if copy not in going])


class Course:
    """A switch that a scheduler leads, and the ideal one beside it, all ranks being 0."""

    def __init__(self, lines):
        self.ideal = Ideal(lines)
        self.view = tuple([() for _ in range(lines)])
        self.views = []
        self.came = 0
        self.went_over = {}

    def take_in(self, coming):
        """What comes in a beat is put behind what waits, and pushed into the ideal outputs."""
        rows = []
        for line, arrival in enumerate(coming):
            waiting = self.view[line]
            if arrival is not None:
                # The newest cell's copies are greater than all that wait: the row stays ascending.
                waiting = waiting + tuple([(self.came, output) for output in arrival[2]])
                for output in arrival[2]:
                    self.ideal.push(output, (0, self.came))
                self.came += 1
            rows.append(waiting)
        self.view = tuple(rows)

    def ask(self, scheduler):
        """Makes one phase: what the scheduler gives goes over."""
        self.views.append(self.view)
        # A list of its own for each call: what the scheduler does to it reaches nothing here.
        going = scheduler(list(self.views))
        if not may_go_over(self.view, going):
            raise BadScheduler(len(self.views) - 1)
        for copy in going:
            self.went_over[copy] = True
        self.view = tuple([without(waiting, going) for waiting in self.view])

    def end_beat(self):
        """The ideal outputs let go: the least copy of those that do not lie there, or None."""
        late = []
        for output in range(len(self.view)):
            if self.ideal.due(output) is not None:
                _, number = self.ideal.let_go(output)
                if (number, output) not in self.went_over:
                    late.append((number, output))
        return min(late, default=None)

    def victim(self):
        """The line at which the least copy that waits does so."""
        heads = [(waiting[0], line) for line, waiting in enumerate(self.view) if waiting]
        return min(heads)[1]


def lead(course, most, scheduler, coming):
    """Leads a course through a beat: the least copy that is late in it, or None."""
    course.take_in(coming)
    for _ in range(most):
        course.ask(scheduler)
    return course.end_beat()


def against(most, scheduler):
    """Arrivals over which a scheduler is late, the first copy that is, and its beat."""
    check_most(most)
    course = Course(2 * most)
    late = lead(course, most, scheduler, first_coming(most))
    victim = course.victim()
    beat = 0
    while late is None:
        beat += 1
        late = lead(course, most, scheduler, later_coming(most, victim))
    return (arrivals_up_to(most, victim, beat), late, beat)


def first_beat(most):
    """How many copies come in beat 0, and how many of them can go over in it at most."""
    check_most(most)
    # A phase carries one copy to each of the most outputs, and there are most phases.
    return ((most + 1) * most, most * most)


def is_against(most, thing):
    """Whether a thing is arrivals, a copy and a beat, as against tells."""
    check_most(most)
    if not is_tuple_of(3, thing):
        return False
    arrivals, copy, beat = thing
    # Equality would take flags for integers: so first is_arrivals, and is_copy.
    if not is_arrivals(2 * most, most, arrivals) or not is_copy(copy) or not is_number_below(most + 1, beat):
        return False
    if arrivals not in [arrivals_up_to(most, victim, beat) for victim in range(most + 1)]:
        return False
    coming = cells(2 * most, most, arrivals)
    ranks = {each: 0 for came in coming for cell in came for each in copies(cell)}
    return ideal_beats(2 * most, most, arrivals, ranks).get(copy) == beat
