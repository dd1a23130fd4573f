"""Plays of nets, beat by beat: what leaves, whether it is lawful, what is met."""

from worstwait.curves import at, is_above
from worstwait.errors import BadPlay
from worstwait.kinds import has_just, is_from, is_list
from worstwait.nets import need_net, sequence

MOST_BEATS = 60
MOST_LETTERS = 10 ** 6


def is_told(thing, words):
    """Whether it is a dict from just these words to lists of numbers of one length."""
    if not has_just(thing, words):
        return False
    rows = list(thing.values())
    if not all([is_list(row) and 1 <= len(row) <= MOST_BEATS for row in rows]):
        return False
    if not all([len(row) == len(rows[0]) for row in rows]):
        return False
    return all([is_from(one, 0, MOST_LETTERS) for row in rows for one in row])


def need_play(net, comes, gifts):
    """Raise the errors of plays unless comes and gifts tell one: how many beats it has."""
    need_net(net)
    flows = [flow[0] for flow in net.flows]
    servers = [server[0] for server in net.servers]
    if not is_told(comes, flows):
        raise BadPlay("comes")
    if not is_told(gifts, servers):
        raise BadPlay("gifts")
    beats = len(gifts[servers[0]])
    if flows and len(comes[flows[0]]) != beats:
        raise BadPlay("gifts")
    return beats


class NetPlay:
    """A play that was played: what came and what left at each stop, beat by beat.

    came and gone have for each stop, a pair (flow, server), a list of numbers.
    """

    def __init__(self, net, comes, gifts):
        self.beats = need_play(net, comes, gifts)
        self.net = net
        self.came = {}
        self.gone = {}
        for word, promise, path, rank in net.flows:
            for server in path:
                self.came[word, server] = [0] * self.beats
                self.gone[word, server] = [0] * self.beats
            self.came[word, path[0]] = list(comes[word])
        for beat in range(self.beats):
            for server in sequence(net):
                self.serve(server, beat, gifts[server][beat])

    def flows_at(self, server):
        """The flows that come to a server, those that leave first ahead."""
        flows = [flow for flow in self.net.flows if server in flow[2]]
        return sorted(flows, key=lambda flow: (flow[3], flow[0]))

    def serve(self, server, beat, gift):
        """What leaves a server in a beat leaves it and comes to the next one."""
        for word, promise, path, rank in self.flows_at(server):
            letters = min(gift, self.heap(word, server, beat))
            self.gone[word, server][beat] = letters
            gift -= letters
            behind = path.index(server) + 1
            if behind < len(path):
                self.came[word, path[behind]][beat] = letters

    def heap(self, word, server, beat):
        """How many letters of a flow lie at a server at, or behind, a beat."""
        came = sum(self.came[word, server][:beat + 1])
        return came - sum(self.gone[word, server][:beat + 1])

    def heap_of_all(self, server, beat):
        """How many letters lie at a server behind a beat."""
        return sum([self.heap(flow[0], server, beat) for flow in self.flows_at(server)])


def net_played(net, comes, gifts):
    """For each flow how many letters leave each server of its path at each beat."""
    play = NetPlay(net, comes, gifts)
    told = {}
    for word, promise, path, rank in net.flows:
        told[word] = tuple([tuple(play.gone[word, server]) for server in path])
    return told


def is_lawful(net, comes, gifts):
    """Whether all promises are kept, and each server gives what its curve tells."""
    play = NetPlay(net, comes, gifts)
    for word, promise, path, rank in net.flows:
        if not keeps_promise(comes[word], promise):
            return False
    for server, curve in net.servers:
        heaps = [play.heap_of_all(server, beat) for beat in range(play.beats)]
        if not gives_enough(heaps, gifts[server], curve):
            return False
    return True


def keeps_promise(row, promise):
    """Whether in no stretch of beats more letters come than promised."""
    for begin in range(len(row)):
        for end in range(begin + 1, len(row) + 1):
            if is_above(sum(row[begin:end]), at(promise, end - begin)):
                return False
    return True


def gives_enough(heaps, gifts, curve):
    """Whether in each stretch of beats behind which letters are left enough is given."""
    for begin in range(len(heaps)):
        for end in range(begin + 1, len(heaps) + 1):
            if heaps[end - 1] == 0:
                break
            if is_above(at(curve, end - begin), sum(gifts[begin:end])):
                return False
    return True


def longest_met(came, gone):
    """The longest wait of letters that leave in the sequence in which they came.

    What has not left counts as leaving in the beat behind the last one.
    """
    longest = 0
    for beat, letters in enumerate(came):
        if letters > 0:
            wanted = sum(came[:beat + 1])
            end = beat
            while end < len(gone) and sum(gone[:end + 1]) < wanted:
                end += 1
            longest = max(longest, end - beat)
    return longest


def met(net, comes, gifts):
    """For each flow its longest whole wait, and wait and heap at each server of its path."""
    play = NetPlay(net, comes, gifts)
    told = {}
    for word, promise, path, rank in net.flows:
        row = []
        for server in path:
            wait = longest_met(play.came[word, server], play.gone[word, server])
            heap = max([play.heap(word, server, beat) for beat in range(play.beats)])
            row.append((server, wait, heap))
        whole = longest_met(comes[word], play.gone[word, path[-1]])
        told[word] = whole, tuple(row)
    return told
