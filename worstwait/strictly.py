"""Services kept strictly: in each stretch in which letters are left enough of them leave."""

from worstwait.curves import first_values, is_above, need_curve
from worstwait.runs import heaps_of, need_run
from worstwait.traffics import need_row


def strict_break(run, service):
    """The stretch (s, t) in which too few letters leave; None if the service is kept strictly."""
    need_run(run)
    need_curve(service)
    gone = run[1]
    least = first_values(service, len(gone))
    begin = 0
    for end, heap in enumerate(heaps_of(run)):
        if heap == 0:
            # Whatever begins ahead of this beat has no letters left at it.
            begin = end
        for beat in range(begin, end):
            if is_above(least[end - beat], gone[end] - gone[beat]):
                return beat, end
    return None


def keeps_strictly(run, service):
    """Whether a run keeps a service strictly."""
    return strict_break(run, service) is None


def lazy_gone(came, service):
    """The row of letters that leave a server which does no more than it has to, beat by beat."""
    need_row(came)
    need_curve(service)
    least = first_values(service, len(came))
    gone = [0]
    begin = 0
    for end in range(1, len(came)):
        letters = letters_due(gone, least, begin, end)
        if letters is None or letters >= came[end]:
            letters = came[end]
            begin = end
        gone.append(letters)
    return tuple(gone)


def letters_due(gone, least, begin, end):
    """How many letters have to have left at a beat if some are left since a beat; None for all."""
    if least[end - begin] is None:
        return None
    return max([gone[beat] + least[end - beat] for beat in range(begin, end)] + [gone[-1]])
