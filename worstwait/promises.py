"""Promises: curves that bound how many letters come in any stretch of beats."""

from worstwait.curves import at, first_none, first_values, has_none, is_above, need_curve, regular_from
from worstwait.foldings import least_sums
from worstwait.joined import common_period, gain_in
from worstwait.traffics import curve_of


def breach(traffic, promise):
    """The stretch (s, t) in which too many letters come; None if the promise is kept.

    A stretch that begins, or a long one that ends, later than what is looked
    at here goes wrong only if one goes wrong that is a period earlier, or if
    the traffic grows faster than the promise lets it.
    """
    need_curve(promise)
    endless = curve_of(traffic)
    if has_none(promise):
        return wrong_ahead(endless, promise, len(endless.start) + first_none(promise) - 2)
    step = common_period(endless, promise)
    if endless.growth == 0:
        return wrong_ahead(endless, promise, regular_from(endless))
    many = len(endless.start) + max(1, regular_from(promise)) + step
    found = wrong_ahead(endless, promise, many + step)
    if found is None and gain_in(endless, promise, step) > 0:
        return wrong_behind(endless, promise, many, step)
    return found


def wrong_ahead(endless, promise, many):
    """The stretch that goes wrong at one of the beats from 1 to many; None without one."""
    its = [most for most in first_values(promise, many + 1)[1:] if most is not None]
    if not its:
        return None
    row = first_values(endless, many + 1)
    let = least_sums(row[:len(endless.start)], its, many)
    for place, most in enumerate(let):
        if row[place + 1] > most:
            return last_begin(endless, promise, place, place + 1), place + 1
    return None


def wrong_behind(endless, promise, many, step):
    """The first stretch that goes wrong behind many beats, of a traffic that grows faster.

    At each of the next beats what is still let becomes less by the same
    number, each time a common period goes by.
    """
    gain = gain_in(endless, promise, step)
    starts = len(endless.start)
    row = first_values(endless, many + step)
    let = least_sums(row[:starts], first_values(promise, many + step)[1:], many + step - 1)
    spare = [most - letters for most, letters in zip(let[many - 1:], row[many:])]
    beat = min([many + place + (more // gain + 1) * step for place, more in enumerate(spare)])
    return last_begin(endless, promise, starts - 1, beat), beat


def last_begin(endless, promise, begin, end):
    """The last beat up to begin from which too many letters come up to end; there is one."""
    came = at(endless, end)
    while not is_above(came - at(endless, begin), at(promise, end - begin)):
        begin -= 1
    return begin


def keeps(traffic, promise):
    """Whether the traffic keeps the promise."""
    return breach(traffic, promise) is None
