"""Services: how many letters at least leave a server."""

from worstwait.curves import first_values, need_curve
from worstwait.foldings import least_sums
from worstwait.runs import need_run
from worstwait.traffics import need_row


def service_row(service, many):
    """The first values of a service, 0 at beat 0, up to the first None; at most so many."""
    row = [0] + first_values(service, many)[1:]
    return [one for one in row if one is not None]


def least_left(came, service):
    """The least number of letters that left below each beat of a row that came."""
    return tuple(least_sums(came, service_row(service, len(came)), len(came)))


def least_gone(came, service):
    """The row of the fewest letters that leave if this row comes to a server of this service."""
    need_row(came)
    need_curve(service)
    return least_left(came, service)


def service_break(run, service):
    """The first beat at which a run does not keep a service; None without one."""
    need_run(run)
    need_curve(service)
    came, gone = run
    for beat, least in enumerate(least_left(came, service)):
        if gone[beat] < least:
            return beat
    return None


def keeps_service(run, service):
    """Whether a run keeps a service."""
    return service_break(run, service) is None
