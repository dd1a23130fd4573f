"""Measures: how many letters of traffics came at most in so many beats in a row."""

from worstwait.errors import BadTraffic
from worstwait.joined import most_of
from worstwait.kinds import is_list
from worstwait.traffics import curve_of, is_endless, is_traffic
from worstwait.unfoldings import unfolding

MOST_TRAFFICS = 60


def measured(traffic):
    """The curve of the most letters that came in so many beats in a row."""
    endless = curve_of(traffic)
    return unfolding(endless, endless)


def measured_all(traffics):
    """The curve of the most letters of any of these traffics that came in so many beats in a row."""
    if not is_list(traffics) or not 1 <= len(traffics) <= MOST_TRAFFICS:
        raise BadTraffic("traffics")
    if not all([is_traffic(one) or is_endless(one) for one in traffics]):
        raise BadTraffic("traffics")
    most = measured(traffics[0])
    for one in traffics[1:]:
        most = most_of(most, measured(one))
    return most
