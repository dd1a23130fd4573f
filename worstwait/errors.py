"""The errors of the package, all directly below WaitError."""


class WaitError(ValueError):
    """What is above all errors of the package."""


class BadBooking(WaitError):
    """What is no booking."""


class BadBookings(WaitError):
    """What is no list of bookings."""


class BadBundle(WaitError):
    """What is no bundle of runs."""


class BadChange(WaitError):
    """What is no change of a net."""


class BadCurve(WaitError):
    """What is no curve; part tells what of it is wrong, None that it is none at all."""

    def __init__(self, part):
        self.part = part


class BadDeadlines(WaitError):
    """What is no list of deadlines, one for each row."""


class BadDeed(WaitError):
    """What is no deed."""


class BadFlow(WaitError):
    """What is no flow of the net."""


class BadGates(WaitError):
    """What is no list of timetables."""


class BadKeeper(WaitError):
    """What is no keeper."""


class BadLimits(WaitError):
    """What is no dict of limits."""


class BadLine(WaitError):
    """What is no line of a journal; number tells which one."""

    def __init__(self, number):
        self.number = number


class BadMeter(WaitError):
    """What is no meter."""


class BadNames(WaitError):
    """What are no new words for all servers and flows."""


class BadNet(WaitError):
    """What is no net; part tells what of it is wrong, None that it is none at all."""

    def __init__(self, part):
        self.part = part


class BadNumber(WaitError):
    """A number that is none or out of its bounds; part tells which one."""

    def __init__(self, part):
        self.part = part


class BadPages(WaitError):
    """What are no pages of a disk."""


class BadParcels(WaitError):
    """What are no parcels."""


class BadPlay(WaitError):
    """What is no play of a net; part tells what of it is wrong."""

    def __init__(self, part):
        self.part = part


class BadPromise(WaitError):
    """What is no promise of a booking."""


class BadPromises(WaitError):
    """What are no promises for the flows of a station."""


class BadRow(WaitError):
    """What is no row."""


class BadRows(WaitError):
    """What are no rows."""


class BadRun(WaitError):
    """What is no run."""


class BadServer(WaitError):
    """What is no server of the net."""


class BadServices(WaitError):
    """What is no list of services."""


class BadSession(WaitError):
    """What is no session."""


class BadStation(WaitError):
    """What is no station; part tells what of it is wrong, None that it is none at all."""

    def __init__(self, part):
        self.part = part


class BadStations(WaitError):
    """What are no stations in a line."""


class BadStop(WaitError):
    """What is no stop of the net."""


class BadSystem(WaitError):
    """What is no system; part tells what of it is wrong, None that it is none at all."""

    def __init__(self, part):
        self.part = part


class BadText(WaitError):
    """What is no text; at tells up to which place it is a beginning."""

    def __init__(self, at):
        self.at = at


class BadTimetable(WaitError):
    """What is no timetable."""


class BadTraffic(WaitError):
    """What is no traffic; part tells which one."""

    def __init__(self, part):
        self.part = part


class BadWays(WaitError):
    """What are no ways out."""


class NoEnd(WaitError):
    """Waits without end."""


class NotKept(WaitError):
    """A promise that is not kept; breach tells where."""

    def __init__(self, breach):
        self.breach = breach


class NotLet(WaitError):
    """A deed that can't be done; why tells the reason."""

    def __init__(self, why):
        self.why = why


class NotNow(WaitError):
    """What can't be done at present."""


class NotTold(WaitError):
    """What the program doesn't tell."""


class TooMany(WaitError):
    """More than the program tells; most tells how many it tells at most."""

    def __init__(self, most):
        self.most = most
