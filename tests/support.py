"""Short ways to write kinds, and plain second answers to check the program against."""

N = ("number",)


def B(n):
    return ("blank", n)


def P(one, other):
    return ("pair", one, other)


def T(one, other):
    return ("to", one, other)


def first_deep(head, levels, leaf, inmost):
    """A kind of 2 * levels + 1 kinds, each within the first part of the one around it."""
    kind = inmost
    for _ in range(levels):
        kind = (head, kind, leaf)
    return kind


def second_deep(head, levels, leaf, inmost):
    kind = inmost
    for _ in range(levels):
        kind = (head, leaf, kind)
    return kind


def size(kind):
    """How many kinds a kind has in it, written out; parts that are one object are counted from one walk."""
    sizes = {}
    waiting = [kind]
    while waiting:
        part = waiting[-1]
        missing = [each for each in part[1:] if isinstance(each, tuple) and id(each) not in sizes]
        if missing:
            waiting.extend(missing)
            continue
        waiting.pop()
        sizes[id(part)] = 1 + sum(sizes[id(each)] for each in part[1:] if isinstance(each, tuple))
    return sizes[id(kind)]


def alike_all_through(one, other):
    """`one == other`, for kinds that are too deep for Python's own comparison."""
    waiting = [(one, other)]
    while waiting:
        left, right = waiting.pop()
        if type(left) is not type(right):
            return False
        if not isinstance(left, tuple):
            if left != right:
                return False
        elif len(left) != len(right):
            return False
        else:
            waiting.extend(zip(left, right))
    return True


def small_kinds(leaves, rounds):
    """All kinds over these leaves in which kinds lie at most so many deep."""
    kinds = list(leaves)
    for _ in range(rounds):
        kinds = list(leaves) + [(head, one, other) for head in ("pair", "to") for one in kinds for other in kinds]
    return kinds


# The second answers: short, slow, and only for small kinds.

def put(kind, given):
    """What is given by their numbers, put into a kind all at once."""
    if kind[0] == "blank":
        return given.get(kind[1], kind)
    return (kind[0],) + tuple(put(part, given) for part in kind[1:])


def blanks_of(kind):
    if kind[0] == "blank":
        return [kind[1]]
    return [n for part in kind[1:] for n in blanks_of(part)]


def counted(kind):
    given = {}
    for n in blanks_of(kind):
        if n not in given:
            given[n] = B(len(given))
    return put(kind, given)


def unlike_places(one, other):
    """The first two parts, at one place of both, that are not the same; None where there are none."""
    if one == other:
        return None
    if one[0] != other[0] or one[0] in ("blank", "number"):
        return one, other
    return unlike_places(one[1], other[1]) or unlike_places(one[2], other[2])


def alike_by_steps(one, other):
    """Puts in, for the first place that differs, what that place asks for, until none differs."""
    while True:
        places = unlike_places(one, other)
        if places is None:
            return counted(one)
        if places[0][0] != "blank":
            places = places[1], places[0]
        blank, goal = places
        if blank[0] != "blank" or blank[1] in blanks_of(goal):
            return None
        one, other = put(one, {blank[1]: goal}), put(other, {blank[1]: goal})


def part_at(kind, place):
    for step in place:
        if len(kind) < 3:
            return None
        kind = kind[step]
    return kind


def places_of_blanks(kind, place=()):
    if kind[0] == "blank":
        return [(place, kind[1])]
    found = []
    for step in range(1, len(kind)):
        found.extend(places_of_blanks(kind[step], place + (step,)))
    return found


def fits_by_putting(wide, kind):
    """Puts in what stands at each blank's places, and looks whether that gives the kind."""
    given = {}
    for place, n in places_of_blanks(wide):
        there = part_at(kind, place)
        if there is None:
            return False
        given[n] = there
    return put(wide, given) == kind
