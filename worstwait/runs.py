"""Runs: what came and what left, as rows; bundles of runs, one for each flow."""

from worstwait.errors import BadBundle, BadRun
from worstwait.traffics import is_row

MOST_FLOWS = 8


def is_run(thing):
    """Whether it is a pair of rows of one length, the second one never above the first one."""
    if not isinstance(thing, tuple) or len(thing) != 2:
        return False
    came, gone = thing
    if not is_row(came) or not is_row(gone) or len(came) != len(gone):
        return False
    return all([less <= more for less, more in zip(gone, came)])


def need_run(thing):
    """Raise the error of what is no run unless it is one."""
    if not is_run(thing):
        raise BadRun("a pair of rows is wanted, the second one never above the first one")


def heaps_of(run):
    """How many letters came and have not left, beat by beat."""
    return [more - less for more, less in zip(run[0], run[1])]


def run_heaps(run):
    """The heaps of a run, beat by beat."""
    need_run(run)
    return heaps_of(run)


def run_waits(run):
    """The waits of a run, beat by beat; None where there is none within the row."""
    need_run(run)
    came, gone = run
    told = []
    end = 0
    for beat, letters in enumerate(came):
        end = max(end, beat)
        while end < len(gone) and gone[end] < letters:
            end += 1
        told.append(end - beat if end < len(gone) else None)
    return told


def is_bundle(thing):
    """Whether it is a tuple of 1 to 8 runs of one length."""
    if not isinstance(thing, tuple) or not 1 <= len(thing) <= MOST_FLOWS:
        return False
    if not all([is_run(run) for run in thing]):
        return False
    return all([len(run[0]) == len(thing[0][0]) for run in thing])


def need_bundle(thing):
    """Raise the error of what is no bundle unless it is one."""
    if not is_bundle(thing):
        raise BadBundle("a tuple of 1 to 8 runs of one length is wanted")


def added_up(rows):
    """The tuple of the sums of rows, beat by beat."""
    return tuple([sum([row[beat] for row in rows]) for beat in range(len(rows[0]))])


def all_together(bundle):
    """The run of the sums of all runs of a bundle."""
    need_bundle(bundle)
    return added_up([run[0] for run in bundle]), added_up([run[1] for run in bundle])
