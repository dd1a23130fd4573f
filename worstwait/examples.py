"""The examples of the document: texts of a net, of a timetable and of bookings."""

NET = """net
server hub gives late1 2/1
server out gives late1 3/1
flow x keeps [0 2] rank 0 through hub out
flow y keeps [0;1by1] rank 1 through hub"""

TIMETABLE = "timetable 0 2"

BOOKINGS = """bookings
book a keeps line1 1/2 within 1
book b keeps line2 1/4 within 5"""


def examples():
    """The list of the three texts."""
    return [NET, TIMETABLE, BOOKINGS]
