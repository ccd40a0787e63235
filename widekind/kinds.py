"""Kinds as tuples: their parts, and their blanks counted anew.

Kinds may lie deep in one another, so nothing here calls itself, and kinds are
not compared by Python's own `==`, which would go down into them call by call.
"""


# All kinds in a kind: itself first, those in its first part ahead of those in its second.
def parts(kind):
    order = []
    waiting = [kind]
    while waiting:
        part = waiting.pop()
        order.append(part)
        if len(part) == 3:
            waiting.append(part[2])
            waiting.append(part[1])
    return order


# What `make` gives for a kind: it is handed each part, with what it gave for the two parts within it.
def built(kind, make):
    ready = []
    # Walked backwards, the parts within a part are ready ahead of it, the first of them last.
    for part in reversed(parts(kind)):
        if len(part) == 3:
            one = ready.pop()
            other = ready.pop()
            ready.append(make((part[0], one, other)))
        else:
            ready.append(make(part))
    return ready.pop()


# The kind with its blanks counted anew.
def numbered(kind):
    counts = {}
    for part in parts(kind):
        if part[0] == "blank":
            counts.setdefault(part[1], len(counts))
    return built(kind, lambda part: ("blank", counts[part[1]]) if part[0] == "blank" else part)
