"""What is left to a flow beside others by turns and by shares."""

from math import gcd

from worstwait.bundles import MOST_PART, least_by_turns, most_by_shares
from worstwait.curves import first_values, has_none, made, need_curve
from worstwait.errors import BadNumber
from worstwait.kinds import is_from, is_list, need_number

MOST_FLOWS = 8


def need_parts_of(service, parts, flow, word):
    """Raise the errors of what is no service, no list of numbers of flows, no flow of these."""
    need_curve(service)
    if not is_list(parts) or not 1 <= len(parts) <= MOST_FLOWS:
        raise BadNumber(word)
    if not all([is_from(one, 1, MOST_PART) for one in parts]):
        raise BadNumber(word)
    need_number(flow, 0, len(parts) - 1, "flow")


def left_by_turns(service, quanta, flow):
    """What is left of a service to a flow by turns with these quanta."""
    need_parts_of(service, quanta, flow, "quanta")
    whole = sum(quanta)
    table = [least_by_turns(letters, whole, quanta[flow]) for letters in range(whole)]
    return divided(service, table, quanta[flow], 0)


def left_by_shares(service, shares, flow):
    """What is left of a service to a flow by shares with these shares."""
    need_parts_of(service, shares, flow, "shares")
    first = len(shares) - 1
    table = []
    own = 0
    for letters in range(first, first + sum(shares)):
        while letters > most_by_shares(own, shares, flow):
            own += 1
        table.append(own)
    return divided(service, table, shares[flow], first)


def divided(service, table, part, first):
    """The curve of what a flow has of a service's letters, at each beat but beat 0, where it is 0.

    None of those below first is the flow's. The table tells how many of each
    number from first on are; each time the numbers are so many more as the
    table has, part of these are.
    """
    whole = len(table)
    if has_none(service):
        row = service.start
        return made([0] + shared_out(row[1:-1], table, part, first) + [None], 1, 0)
    rounds = 1 if service.growth == 0 else whole // gcd(whole, service.growth)
    begin = len(service.start) + 1
    if service.growth > 0:
        begin += -(-first // service.growth) * service.period
    row = first_values(service, begin + rounds * service.period)[1:]
    growth = rounds * service.growth // whole * part
    return made([0] + shared_out(row, table, part, first), rounds * service.period, growth)


def shared_out(letters, table, part, first):
    """How many of these numbers of letters are the flow's."""
    told = []
    for many in letters:
        rounds, place = divmod(max(many, first) - first, len(table))
        told.append(rounds * part + table[place])
    return told
