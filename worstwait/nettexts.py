"""Texts of nets."""

from worstwait.curvetexts import curve_text
from worstwait.expressions import Expressions
from worstwait.nets import Net, need_net
from worstwait.syntax import Syntax
from worstwait.tokens import need_text, tail_of

NET = ("line",), ("sign", "\n"), ("word", "net")


def server_line(word, curve):
    """The line of a server."""
    return " ".join(["server", word, "gives", curve_text(curve)])


def flow_line(word, promise, path, rank):
    """The line of a flow."""
    ahead = " ".join(["flow", word, "keeps", curve_text(promise), "rank", str(rank), "through"])
    return ahead + " " + " ".join(path)


def net_text(net):
    """The text of a net."""
    need_net(net)
    lines = ["net"] + [server_line(word, curve) for word, curve in net.servers]
    lines = lines + [flow_line(word, promise, path, rank) for word, promise, path, rank in net.flows]
    return "\n".join(lines)


def tail_of_net_text(text):
    """The shortest string that makes it a text of a net; None if none does."""
    return tail_of(Syntax(NET), text)


def net_of_text(text):
    """The net that a text tells."""
    reader = Expressions(need_text(Syntax(NET), text))
    reader.pull()
    servers = []
    flows = []
    while reader.next_is("\n"):
        reader.pull()
        if reader.pull() == "server":
            servers.append(read_server(reader))
        else:
            flows.append(read_flow(reader))
    return Net(tuple(servers), tuple(flows))


def read_server(reader):
    """The server that the line tells behind its first word."""
    word = reader.pull()
    reader.pull()
    return word, reader.read_curve()


def read_flow(reader):
    """The flow that the line tells behind its first word."""
    word = reader.pull()
    reader.pull()
    promise = reader.read_curve()
    reader.pull()
    rank = reader.read_number()
    reader.pull()
    path = [reader.pull()]
    while reader.place < len(reader.tokens) and not reader.next_is("\n"):
        path.append(reader.pull())
    return word, promise, tuple(path), rank
