"""Short ways to write pieces, and plain second answers for them: short, slow, and only for small pieces."""

import random

from support import B, N, P, T, blanks_of, fits_by_putting, part_at, places_of_blanks, put

ONE = ("number", 1)


def name(word):
    return ("name", word)


def pair(one, other):
    return ("pair", one, other)


def form(word, body):
    return ("form", word, body)


def call(one, other):
    return ("call", one, other)


def let(word, one, other):
    return ("let", word, one, other)


X, Y, Z, F, G, V, W = (name(word) for word in "xyzfgvw")


def word(n):
    """Another word for each number; they begin with a k."""
    letters = ""
    while n:
        n, rest = divmod(n, 26)
        letters += chr(ord("a") + rest)
    return "k" + letters


def nested(levels, around, inmost):
    """What `around` gives when it is handed a piece and a number, so many times one in another."""
    piece = inmost
    for n in range(levels):
        piece = around(piece, n)
    return piece


def inner(piece):
    return [part for part in piece[1:] if isinstance(part, tuple)]


def pieces_of(piece):
    """All pieces in a piece, in the order of their paths."""
    return [piece] + [each for part in inner(piece) for each in pieces_of(part)]


def paths_of(piece, path=()):
    found = [path]
    for step, part in enumerate(inner(piece)):
        found.extend(paths_of(part, path + (step,)))
    return found


def piece_at(piece, path):
    for step in path:
        piece = inner(piece)[step]
    return piece


# What a place sees: by each usable word ("form", kind) or ("let", kind of its `one`, what is seen at the let).

def kept_at(seen, now):
    """The blanks that are kept for a let at which this is seen; `now` gives what a kind has become."""
    kept = set()
    for entry in seen.values():
        if entry[0] == "form":
            kept |= set(blanks_of(now(entry[1])))
        else:
            kept |= set(blanks_of(now(entry[1]))) & kept_at(entry[2], now)
    return kept


class Clash(Exception):
    pass


class PlainFinder:
    """Deals with the pieces as point 11 says it, and puts into all kinds at each call."""

    def __init__(self, outside):
        self.outside = outside
        self.given = {}
        self.made = 0
        self.kinds = {}

    def blank(self):
        self.made += 1
        return B(1000000 + self.made)

    def now(self, kind):
        if kind[0] == "blank":
            return self.now(self.given[kind[1]]) if kind[1] in self.given else kind
        return (kind[0],) + tuple(self.now(part) for part in kind[1:])

    def alike(self, one, other):
        one, other = self.now(one), self.now(other)
        if one == other:
            return True
        if one[0] != "blank":
            one, other = other, one
        if one[0] == "blank":
            if one[1] in blanks_of(other):
                return False
            self.given[one[1]] = other
            return True
        return one[0] == other[0] and all(self.alike(left, right) for left, right in zip(one[1:], other[1:]))

    def used(self, wide, kept):
        return put(wide, {n: self.blank() for n in sorted(set(blanks_of(wide)) - kept)})

    def deal(self, piece, path, seen):
        self.kinds[path] = self.kind_of(piece, path, seen)
        return self.kinds[path]

    def kind_of(self, piece, path, seen):
        if piece[0] == "number":
            return N
        if piece[0] == "name":
            entry = seen.get(piece[1])
            if entry is None:
                return self.used(self.outside[piece[1]], set())
            if entry[0] == "form":
                return entry[1]
            return self.used(self.now(entry[1]), kept_at(entry[2], self.now))
        if piece[0] == "form":
            handed = self.blank()
            return T(handed, self.deal(piece[2], path + (0,), {**seen, piece[1]: ("form", handed)}))
        if piece[0] == "let":
            one = self.deal(piece[2], path + (0,), seen)
            return self.deal(piece[3], path + (1,), {**seen, piece[1]: ("let", one, seen)})
        one = self.deal(piece[1], path + (0,), seen)
        other = self.deal(piece[2], path + (1,), seen)
        if piece[0] == "pair":
            return P(one, other)
        told = self.blank()
        if not self.alike(one, T(other, told)):
            raise Clash(list(path))
        return told


def found_plainly(outside, piece):
    finder = PlainFinder(outside)
    try:
        finder.deal(piece, (), {})
    except Clash as clash:
        return ("clash", clash.args[0])
    return ("kinds", counted_through([finder.now(finder.kinds[path]) for path in paths_of(piece)]))


def counted_through(kinds):
    given = {}
    for n in [n for kind in kinds for n in blanks_of(kind)]:
        given.setdefault(n, B(len(given)))
    return [put(kind, given) for kind in kinds]


def becomes_plainly(wide, kind, kept):
    """Whether the kind is the wide one with something put in for blanks that aren't kept."""
    if any(part_at(kind, place) != B(n) for place, n in places_of_blanks(wide) if n in kept):
        return False
    return fits_by_putting(wide, kind)


def holds_plainly(outside, piece, kinds):
    by_path = dict(zip(paths_of(piece), kinds))
    return all(stands_plainly(outside, piece, by_path, path) for path in by_path)


def seen_at(piece, by_path, path):
    """What is seen from the place to which a path leads."""
    seen = {}
    for length, step in enumerate(path):
        around = piece_at(piece, path[:length])
        if around[0] == "form":
            kind = by_path[path[:length]]
            seen = {**seen, around[1]: ("form", kind[1] if kind[0] == "to" else N)}
        elif around[0] == "let" and step == 1:
            seen = {**seen, around[1]: ("let", by_path[path[:length] + (0,)], seen)}
    return seen


def stands_plainly(outside, piece, by_path, path):
    here = piece_at(piece, path)
    kind = by_path[path]
    if here[0] == "number":
        return kind == N
    if here[0] == "name":
        entry = seen_at(piece, by_path, path).get(here[1])
        if entry is None:
            return becomes_plainly(outside[here[1]], kind, set())
        if entry[0] == "form":
            return kind == entry[1]
        return becomes_plainly(entry[1], kind, kept_at(entry[2], lambda each: each))
    one = by_path[path + (0,)]
    if here[0] == "form":
        return kind[0] == "to" and kind[2] == one
    other = by_path[path + (1,)]
    if here[0] == "pair":
        return kind == P(one, other)
    if here[0] == "call":
        return one == T(other, kind)
    return kind == other


# Pieces by chance, always the same ones.

def some_piece(chance, size, words):
    """A piece of about so many pieces, over these words."""
    if size < 2:
        return name(chance.choice(words)) if chance.random() < 0.85 else ("number", chance.randrange(-3, 9))
    sort = chance.choice(("form", "form", "call", "call", "call", "let", "let", "pair"))
    if sort == "form" or size == 2:
        return form(chance.choice(words), some_piece(chance, size - 1, words))
    first = chance.randrange(1, size - 1)
    parts = some_piece(chance, first, words), some_piece(chance, size - 1 - first, words)
    if sort == "let":
        return let(chance.choice(words), *parts)
    return (sort,) + parts


def some_pieces(seed, count, sizes, words):
    chance = random.Random(seed)
    return [some_piece(chance, chance.choice(sizes), words) for _ in range(count)]


def all_pieces(size, words):
    """All pieces of just so many pieces, over these words."""
    if size == 1:
        return [ONE] + [name(each) for each in words]
    found = [form(each, body) for body in all_pieces(size - 1, words) for each in words]
    for first in range(1, size - 1):
        for one in all_pieces(first, words):
            for other in all_pieces(size - 1 - first, words):
                found.extend([pair(one, other), call(one, other)] + [let(each, one, other) for each in words])
    return found


def with_own_words(piece, seen=None, made=None):
    """The same piece, but each form and let has a word of its own."""
    seen = {} if seen is None else seen
    made = [] if made is None else made
    if piece[0] == "number":
        return piece
    if piece[0] == "name":
        return name(seen.get(piece[1], piece[1]))
    if piece[0] in ("pair", "call"):
        return (piece[0],) + tuple(with_own_words(part, seen, made) for part in piece[1:])
    made.append(word(len(made)))
    inside = {**seen, piece[1]: made[-1]}
    if piece[0] == "form":
        return form(inside[piece[1]], with_own_words(piece[2], inside, made))
    one = with_own_words(piece[2], seen, made)
    return let(inside[piece[1]], one, with_own_words(piece[3], inside, made))


def replaced(piece, each, one):
    """`one` in the place of each name with a word, in a piece in which no form or let has it."""
    if piece == name(each):
        return one
    return tuple(replaced(part, each, one) if isinstance(part, tuple) else part for part in piece)
