"""The errors of the package: each derives directly from FabricError (0.3)."""


class FabricError(ValueError):
    """What all errors of the package are."""


class NoLines(FabricError):
    """No number of lines."""


class NoMost(FabricError):
    """No greatest number of copies."""


class NoOutput(FabricError):
    """No number of an output."""


class NoKey(FabricError):
    """No key of the ideal switch."""


class KeyThere(FabricError):
    """The output holds a key of this cell already."""


class NothingThere(FabricError):
    """The output holds nothing."""


class NoPlane(FabricError):
    """No plane for which this can be asked."""


class FewPlanes(FabricError):
    """Too few planes would be whole."""


class NoPhase(FabricError):
    """No number of a phase."""


class NoStanding(FabricError):
    """No standing of rows."""


class NoMatching(FabricError):
    """No matching of the standing."""


class NoLine(FabricError):
    """No number of a line."""


class NoCopies(FabricError):
    """No copies that can come."""


class CameAlready(FabricError):
    """In this beat a cell came to the line already."""


class NoPlace(FabricError):
    """No place of the row."""


class NoCell(FabricError):
    """No cell."""


class NoNumber(FabricError):
    """No number of the kind that is asked for."""


class NoPacket(FabricError):
    """No packet."""


class BadLoad(FabricError):
    """No load with the right check."""


class Twice(FabricError):
    """This part of the packet came already."""


class Mixed(FabricError):
    """Loads of one packet tell unlike numbers of parts."""


class NoArrivals(FabricError):
    """No arrivals."""


class NoSaying(FabricError):
    """No line that a desk understands."""


class NoTale(FabricError):
    """No list or tuple of lines."""


class NoSizes(FabricError):
    """No sizes of boxes."""


class NoPlanes(FabricError):
    """No lot, or no number, of planes."""


class NoWeb(FabricError):
    """No web."""


class NotColoured(FabricError):
    """No colouring of the web."""


class NoPair(FabricError):
    """No pair of a line and an output."""


class NoWishes(FabricError):
    """No wishes."""


class NoWish(FabricError):
    """No wish for which this can be asked."""


class NoStream(FabricError):
    """No stream for the buckets."""


class Boundless(FabricError):
    """There is no greatest one."""


class NoTable(FabricError):
    """No table."""


class NotEven(FabricError):
    """The sums of the table are not all one."""


class BadCell(FabricError):
    """A part of a cell is wrong."""

    def __init__(self, part):
        self.part = part


class BadBuckets(FabricError):
    """A part of buckets is wrong."""

    def __init__(self, part):
        self.part = part


class BadArrivals(FabricError):
    """Arrivals are wrong at this beat, or item."""

    def __init__(self, at):
        self.at = at


class BadScheduler(FabricError):
    """In this phase a scheduler gave what can't go over."""

    def __init__(self, at):
        self.at = at


class BadRanks(FabricError):
    """This copy has no rank, or this key is no copy."""

    def __init__(self, which):
        self.which = which


class TooMany(FabricError):
    """There are more than so many."""

    def __init__(self, most):
        self.most = most


class BadProgram(FabricError):
    """The statement at this place is none."""

    def __init__(self, place):
        self.place = place


class NoPrograms(FabricError):
    """The program of this output is none."""

    def __init__(self, output):
        self.output = output


class BadText(FabricError):
    """This line of a text is wrong."""

    def __init__(self, line):
        self.line = line


class BadRows(FabricError):
    """The row of this line is wrong."""

    def __init__(self, line):
        self.line = line


class TooFew(FabricError):
    """There are fewer colours than the degree."""

    def __init__(self, degree):
        self.degree = degree


class Barred(FabricError):
    """This wish bars the plane."""

    def __init__(self, wish):
        self.wish = wish


class Late(FabricError):
    """The copy that is due does not lie at its output."""

    def __init__(self, output, cell):
        self.output = output
        self.cell = cell


class NoWay(FabricError):
    """This box has more wishes than planes are alive."""

    def __init__(self, side, box):
        self.side = side
        self.box = box


class TooFull(FabricError):
    """The numbers of this line or output are too many for the round."""

    def __init__(self, side, line):
        self.side = side
        self.line = line
