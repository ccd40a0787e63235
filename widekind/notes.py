"""Kinds written as lines, and lines read to kinds."""

from widekind.errors import NoKind

SIGNS = {"pair": ",", "to": ">"}
HEADS = {",": "pair", ">": "to"}
FIGURES = "0123456789"


# The line that a kind is written as.
def shown(kind):
    line = []
    waiting = [kind]
    while waiting:
        part = waiting.pop()
        if isinstance(part, str):
            line.append(part)
        elif part[0] == "number":
            line.append("n")
        elif part[0] == "blank":
            line.append("?" + str(part[1]))
        else:
            waiting.extend([")", part[2], SIGNS[part[0]], part[1], "("])
    return "".join(line)


# The kind that is written as this line; refuses every other text with NoKind.
def read(line):
    # For each bracket that isn't closed: the head and the first kind, or None while its first kind is read.
    around = []
    kind = None
    for mark in marks(line):
        if kind is None and mark == "(":
            around.append(None)
        elif kind is None:
            kind = alone(mark)
        elif mark in HEADS and around and around[-1] is None:
            around[-1] = (HEADS[mark], kind)
            kind = None
        elif mark == ")" and around and around[-1] is not None:
            kind = around.pop() + (kind,)
        else:
            raise NoKind(f"no kind goes on with {mark!r}")
    if kind is None or around:
        raise NoKind("the line ends within a kind")
    return kind


# The signs of a line, with the figures behind a question mark drawn to it.
def marks(line):
    found = []
    for sign in line:
        if sign in FIGURES and found and found[-1].startswith("?"):
            found[-1] = found[-1] + sign
        else:
            found.append(sign)
    return found


# The kind that a mark stands for by itself.
def alone(mark):
    if mark == "n":
        return ("number",)
    if mark == "?0" or (len(mark) > 1 and mark[1] != "0"):
        return ("blank", int(mark[1:]))
    raise NoKind(f"no kind begins with {mark!r}")
