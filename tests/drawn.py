"""A fixed row of numbers, the same in each run, and what the tests draw by it."""


class Drawn:
    """Numbers that follow from a first one alone."""

    def __init__(self, first):
        self.state = 2 * first + 1

    def below(self, bound):
        self.state = (self.state * 6364136223846793005 + 1442695040888963407) % 2 ** 64
        return (self.state >> 33) % bound

    def among(self, items):
        return items[self.below(len(items))]

    def flag(self, times, of):
        return self.below(of) < times

    def mixed(self, items):
        """A list of the items in a drawn order."""
        left, out = list(items), []
        while left:
            out.append(left.pop(self.below(len(left))))
        return out

    def lot(self, bound, many):
        """An ascending tuple of so many numbers below a bound."""
        return tuple(sorted(self.mixed(range(bound))[:many]))


def drawn_standing(drawn, lines, longest, ranks=3):
    """A standing with rows of at most so many copies, whose keys are of few ranks."""
    copies = [(output, (drawn.below(ranks), number)) for number in range(longest) for output in range(lines)]
    copies = drawn.mixed(copies)
    return tuple([tuple([copies.pop() for _ in range(min(drawn.below(longest + 1), len(copies)))])
                  for _ in range(lines)])


def drawn_copies(drawn, lines, most, ranks=3):
    """What may come to a line of a switch."""
    outs = drawn.lot(lines, 1 + drawn.below(min(lines, most)))
    return tuple([(output, drawn.below(2 * ranks + 1) - ranks) for output in outs])


def drawn_coming(drawn, lines, most, times=1, of=2):
    return tuple([drawn_copies(drawn, lines, most) if drawn.flag(times, of) else None for _ in range(lines)])


def drawn_arrivals_of_beat(drawn, lines, most, times=1, of=2):
    return tuple([(drawn.below(4), drawn.below(8), drawn.lot(lines, 1 + drawn.below(min(lines, most))))
                  if drawn.flag(times, of) else None for _ in range(lines)])


def drawn_web(drawn, many, ties):
    return tuple(sorted([(drawn.below(many), drawn.below(many)) for _ in range(ties)]))


def drawn_wishes(drawn, lines, many):
    """So many pairs of unlike lines and unlike outputs, ascending."""
    return tuple(sorted(list(zip(drawn.mixed(range(lines)), drawn.mixed(range(lines))))[:many]))


def drawn_arrivals(drawn, lines, most, beats, times=1, of=2):
    return tuple([drawn_arrivals_of_beat(drawn, lines, most, times, of) for _ in range(beats)])
