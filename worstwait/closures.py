"""Closures: at each beat the least sum of values at beats that come to it together."""

from heapq import heappop, heappush

from worstwait.curves import MOST_GIVEN, MOST_MADE, at, first_none, first_values, has_none, made
from worstwait.curves import need_curve, regular_from
from worstwait.errors import TooMany
from worstwait.foldings import unit
from worstwait.kinds import need_number


class Parts:
    """The beats of which others may be put together, and what they cost.

    costs[i] is the cost of the part i. Those from ring on, if there are any,
    may be made longer by step as often as wanted, each time for growth more.
    """

    def __init__(self, curve):
        if has_none(curve):
            self.ring = first_none(curve)
            self.step = 0
            self.growth = 0
            many = self.ring
        else:
            self.ring = max(regular_from(curve), 1)
            self.step = curve.period
            self.growth = curve.growth
            many = self.ring + self.step
        self.costs = first_values(curve, many)
        self.many = many


def closure(curve):
    """The greatest curve that keeps to itself and is at most this one behind beat 0."""
    need_curve(curve)
    need_short_start(curve)
    if at(curve, 1) is None:
        return unit()
    parts = Parts(curve)
    best = best_part(parts)
    if best is None:
        return closed_by_growth(parts)
    return closed_by_part(parts, best)


def need_short_start(curve):
    """Raise the error of closures for curves with too many values at the start."""
    if len(curve.start) > MOST_GIVEN:
        raise TooMany(MOST_GIVEN)


def best_part(parts):
    """The least part that costs least for its length.

    None if parts become ever cheaper for their length as they become longer.
    """
    best = 1
    for part in range(2, parts.many):
        if parts.costs[part] * best < parts.costs[best] * part:
            best = part
    if parts.step > 0 and parts.growth * best < parts.costs[best] * parts.step:
        return None
    return best


def least_costs(parts, many):
    """The least costs of the first so many beats."""
    short = parts.costs[1:parts.ring][::-1]
    ring = parts.costs[parts.ring:][::-1]
    told = [0]
    rays = [None]
    for beat in range(1, many):
        ray = ray_cost(parts, ring, told, rays)
        rays.append(ray)
        cost = least_behind(short, told, 1)
        told.append(ray if cost is None or (ray is not None and ray < cost) else cost)
    return told


def ray_cost(parts, ring, told, rays):
    """The least cost of the beat to be told next whose last part is from ring on."""
    if not ring:
        return None
    cost = least_behind(ring, told, parts.ring)
    before = len(told) - parts.step
    if before > 0 and rays[before] is not None:
        return min(cost, rays[before] + parts.growth)
    return cost


def least_behind(back, told, shortest):
    """The least cost of the beat to be told next with one of these parts as the last.

    back holds the costs of parts, the longest one first, the last of them
    being of the length shortest. None if all are too long.
    """
    end = len(told) - shortest + 1
    many = min(len(back), end)
    if many <= 0:
        return None
    costs = back[len(back) - many:]
    ahead = told[end - many:end]
    return min([one + two for one, two in zip(costs, ahead)])


def closed_by_growth(parts):
    """The closure of a curve no part of which is as cheap as its growth.

    Its period is that of the curve. Once the costs go on by it for as many
    beats as the longest of the parts has, they do so for ever.
    """
    many = 4 * parts.many
    while True:
        costs = least_costs(parts, many + parts.many + parts.step)
        begin = goes_on_from(costs, parts.step, parts.growth)
        if begin <= many and begin < MOST_MADE:
            return made(costs[:begin + parts.step], parts.step, parts.growth)
        if many >= MOST_MADE:
            raise TooMany(MOST_MADE)
        many = 4 * many


def goes_on_from(costs, step, growth):
    """The least beat from which on the costs go on by a period, as far as they are told."""
    begin = len(costs) - step
    while begin > 0 and costs[begin - 1 + step] == costs[begin - 1] + growth:
        begin -= 1
    return begin


def closed_by_part(parts, best):
    """The closure of a curve of which the part best is the cheapest for its length.

    Other parts are used fewer than best times in all, so that from some beat
    on it only takes this part once more, for each beat that is as much later.
    """
    begin = max(0, longest_rest(parts, best) - best + 1)
    if begin >= MOST_MADE:
        raise TooMany(MOST_MADE)
    return made(least_costs(parts, begin + best), best, parts.costs[best])


def longest_rest(parts, best):
    """The greatest length that parts other than best need to come to their best.

    For each remainder of beats by best there is a least cost above that of
    the part best for the same length, and a least length with this cost: the
    greatest of these lengths. Places from best on stand for beats the last
    part of which may still be made longer.
    """
    short = lightest(parts, best, 1, parts.ring)
    ring = lightest(parts, best, parts.ring, parts.many)
    longer = over_best(parts, best, parts.growth, parts.step), parts.step
    found = {}
    queue = [(0, 0, 0)]
    while queue:
        over, length, place = heappop(queue)
        if place in found:
            continue
        found[place] = length
        for add, more, to in moves_from(place, best, short, ring, longer):
            if to not in found:
                heappush(queue, (over + add, length + more, to))
    return max([found[place] for place in range(best)])


def moves_from(place, best, short, ring, longer):
    """What may come behind a place: cost above best, length and place behind."""
    if place >= best:
        to = (place - best + longer[1]) % best + best
        return [(longer[0], longer[1], to), (0, 0, place - best)]
    moves = [(add, more, (place + more) % best) for add, more in short]
    return moves + [(add, more, (place + more) % best + best) for add, more in ring]


def over_best(parts, best, cost, length):
    """How much a cost is above what the part best costs for a length, times best."""
    return cost * best - parts.costs[best] * length


def lightest(parts, best, low, high):
    """For each remainder by best the part from low on, below high, that costs least above it.

    Pairs of this cost and the part; of equal costs the shortest part.
    """
    found = {}
    for part in range(low, high):
        told = over_best(parts, best, parts.costs[part], part), part
        if part % best not in found or told < found[part % best]:
            found[part % best] = told
    return list(found.values())


def first_break(curve):
    """The pair of beats at which the curve does not keep to itself; None if it does."""
    need_curve(curve)
    if curve.start[0] != 0:
        return 0, 0
    # A break with a part behind the start is one with this part a period shorter, too.
    most = len(curve.start) - 1
    if has_none(curve):
        most -= 1
    row = first_values(curve, 2 * most + 1)
    back = row[most::-1]
    for total in range(2, 2 * most + 1):
        low = max(1, total - most)
        high = total // 2 + 1
        ahead = row[low:high]
        behind = back[most - total + low:most - total + high]
        sums = [one + two for one, two in zip(ahead, behind)]
        for place, cost in enumerate(sums):
            if row[total] is None or row[total] > cost:
                return low + place, total - low - place
    return None


def is_closed(curve):
    """Whether the curve keeps to itself."""
    return first_break(curve) is None


def cuts(curve, beat):
    """A list of beats that come to this one together, of the sum that the closure tells."""
    need_curve(curve)
    need_number(beat, 0, 400, "beat")
    if beat > 0 and at(curve, 1) is None:
        return None
    row = first_values(curve, beat + 1)
    costs = [0]
    lasts = [0]
    for total in range(1, beat + 1):
        usable = [part for part in range(1, total + 1) if row[part] is not None]
        told = [row[part] + costs[total - part] for part in usable]
        costs.append(min(told))
        lasts.append(usable[told.index(min(told))])
    found = []
    while beat > 0:
        found.append(lasts[beat])
        beat -= lasts[beat]
    return found
