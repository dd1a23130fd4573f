"""[3], [5]: the errors."""

import unittest

from worstwait import errors
from tests.plain import Case

PLAIN = """BadBooking BadBookings BadBundle BadChange BadDeadlines BadDeed BadFlow BadGates BadKeeper
BadLimits BadMeter BadNames BadPages BadParcels BadPromise BadPromises BadRow BadRows BadRun BadServer
BadServices BadSession BadStations BadStop BadTimetable BadWays NoEnd NotNow NotTold""".split()
WITH = {"BadCurve": "part", "BadLine": "number", "BadNet": "part", "BadNumber": "part", "BadPlay": "part",
        "BadStation": "part", "BadSystem": "part", "BadText": "at", "BadTraffic": "part",
        "NotKept": "breach", "NotLet": "why", "TooMany": "most"}


class Errors(Case):
    def test_all_41(self):
        names = [name for name in vars(errors) if isinstance(getattr(errors, name), type)]
        self.assertEqual(sorted(names), sorted(PLAIN + list(WITH) + ["WaitError"]))
        self.assertEqual(len(names), 42)

    def test_directly_below(self):
        self.assertEqual(errors.WaitError.__bases__, (ValueError,))
        for name in PLAIN + list(WITH):
            self.assertEqual(getattr(errors, name).__bases__, (errors.WaitError,), name)

    def test_attributes(self):
        for name, attribute in WITH.items():
            for thing in ("start", None, 4000, (1, 2), [3], {}):
                error = getattr(errors, name)(thing)
                self.assertIs(getattr(error, attribute), thing)
                self.assertIs(getattr(getattr(errors, name)(**{attribute: thing}), attribute), thing)

    def test_messages(self):
        for name in PLAIN:
            self.assertEqual(str(getattr(errors, name)("why not")), "why not")


if __name__ == "__main__":
    unittest.main()
