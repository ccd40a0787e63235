"""A let means for kinds what its `other` means with `one` put in the place of its names; words make no difference."""

import random
import unittest

from piece_support import (
    F, ONE, V, W, X, Y, Z, all_pieces, call, form, let, name, pair, paths_of, piece_at, pieces_of, replaced,
    some_pieces, with_own_words,
)
from support import B, N, P, T
from widekind.finding import found_kinds, widest

OUTSIDE = {"f": T(B(0), B(0)), "g": T(B(7), P(B(10 ** 20), B(7))), "x": N, "y": B(3)}


def used_lets(piece):
    """The lets that have at least one name of theirs, in a piece in which each has a word of its own."""
    return [each for each in pieces_of(piece) if each[0] == "let" and name(each[1]) in pieces_of(each[3])]


def put_at(piece, path, new):
    if not path:
        return new
    parts = [each for each in piece[1:] if isinstance(each, tuple)]
    parts[path[0]] = put_at(parts[path[0]], path[1:], new)
    return tuple(each for each in piece if not isinstance(each, tuple)) + tuple(parts)


class PutInTheirPlace(unittest.TestCase):
    def same(self, one, other, outside=OUTSIDE):
        told = widest(outside, one)
        if told[0] == "clash":
            self.assertEqual(widest(outside, other)[0], "clash", (one, other))
        else:
            self.assertEqual(widest(outside, other), told, (one, other))
        return told[0]

    def test_by_hand(self):
        same = form("z", Z)
        self.same(let("v", same, pair(V, V)), pair(same, same))
        self.same(let("v", same, call(V, V)), call(same, same))
        self.same(let("v", F, pair(call(V, ONE), call(V, V))), pair(call(F, ONE), call(F, F)))
        self.same(form("x", let("v", X, call(V, V))), form("x", call(X, X)))
        self.same(form("x", let("v", X, pair(V, V))), form("x", pair(X, X)))
        self.same(form("x", let("v", form("y", X), call(V, V))), form("x", call(form("y", X), form("y", X))))
        self.same(let("v", call(ONE, ONE), V), call(ONE, ONE))

    def test_the_example_of_point_9(self):
        for ends in (lambda y: pair(y, y), lambda y: call(y, y), lambda y: pair(call(y, ONE), call(y, pair(ONE, ONE))),
                     lambda y: pair(call(y, ONE), call(y, y)), lambda y: call(y, X)):
            piece = form("x", let("w", X, form("x", let("y", W, ends(Y)))))
            self.same(piece, form("x", let("w", X, form("x", ends(W)))))
            own = form("u", let("w", name("u"), form("x", let("y", W, ends(Y)))))
            self.same(piece, own)
            self.same(own, form("u", form("x", ends(name("u")))))

    def test_one_let_replaced(self):
        told = {"kind": 0, "clash": 0}
        for piece in all_pieces(5, "xv")[::3] + some_pieces(11, 2500, range(4, 18), "fgxyv"):
            own = with_own_words(piece)
            outside = {**OUTSIDE, "v": T(N, B(0))}
            for path in paths_of(own):
                part = piece_at(own, path)
                if part in used_lets(own):
                    other = put_at(own, path, replaced(part[3], part[1], part[2]))
                    told[self.same(own, other, outside)] += 1
        self.assertGreater(min(told.values()), 200)

    def test_all_lets_replaced(self):
        chance = random.Random(2)
        told = {"kind": 0, "clash": 0}
        for piece in some_pieces(12, 1500, range(4, 18), "fgxyv"):
            own = with_own_words(piece)
            whole = own
            while used_lets(whole):
                part = chance.choice(used_lets(whole))
                path = next(path for path in paths_of(whole) if piece_at(whole, path) == part)
                # Words are made each its own again, since what is put in several times brings its forms and lets along.
                whole = with_own_words(put_at(whole, path, replaced(part[3], part[1], part[2])))
            if whole != own:
                told[self.same(own, whole, {**OUTSIDE, "v": T(N, B(0))})] += 1
        self.assertGreater(min(told.values()), 100)


class Words(unittest.TestCase):
    def test_other_words(self):
        told = {"kinds": 0, "clash": 0}
        for piece in all_pieces(5, "fx") + some_pieces(13, 1500, range(4, 30), "fgxyv"):
            outside = {**OUTSIDE, "v": T(N, B(0))}
            answer = found_kinds(outside, piece)
            self.assertEqual(found_kinds(outside, with_own_words(piece)), answer, piece)
            told[answer[0]] += 1
        self.assertGreater(min(told.values()), 500)

    def test_other_words_for_outside_names(self):
        piece = form("x", pair(call(F, X), call(F, F)))
        other = form("f", pair(call(X, name("f")), call(X, X)))
        self.assertEqual(found_kinds({"f": T(B(0), B(0))}, piece), found_kinds({"x": T(B(0), B(0))}, other))

    def test_words_of_thirty_letters(self):
        for each in ("z" * 30, "a" * 29 + "b", "abcdefghijklmnopqrstuvwxyzabcd"):
            almost = each[:-1]
            piece = form(each, form(almost, pair(name(each), name(almost))))
            self.assertEqual(widest({}, piece), ("kind", T(B(0), T(B(1), P(B(0), B(1))))))
            self.assertEqual(widest({each: N, almost: P(N, N)}, pair(name(each), name(almost))),
                             ("kind", P(N, P(N, N))))

    def test_words_that_sorts_are_called_by(self):
        for each in ("number", "name", "pair", "form", "call", "let", "to", "blank", "enter", "leave", "done", "begin"):
            piece = form(each, let("v", name(each), pair(V, name(each))))
            self.assertEqual(widest({}, piece), ("kind", T(B(0), P(B(0), B(0)))))
            self.assertEqual(widest({each: N}, let("v", name(each), pair(V, name(each)))), ("kind", P(N, N)))


if __name__ == "__main__":
    unittest.main()
