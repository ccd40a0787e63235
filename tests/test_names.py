import unittest

from piece_support import F, ONE, V, W, X, Y, all_pieces, call, form, let, nested, pair
from support import B, N, P, T
from widekind.errors import NoName, WideError
from widekind.finding import found_kinds, widest
from widekind.standing import holds

PAIRED = T(B(0), P(B(0), B(0)))


def outside_words(piece, hidden=()):
    """All words with which names lie in a piece that belong to no form or let."""
    if piece[0] == "number":
        return set()
    if piece[0] == "name":
        return {piece[1]} - set(hidden)
    if piece[0] == "form":
        return outside_words(piece[2], hidden + (piece[1],))
    if piece[0] == "let":
        return outside_words(piece[2], hidden) | outside_words(piece[3], hidden + (piece[1],))
    return outside_words(piece[1], hidden) | outside_words(piece[2], hidden)


class Belonging(unittest.TestCase):
    OUTSIDE = {"x": N, "y": P(N, N), "f": PAIRED}

    def kind(self, piece, goal):
        self.assertEqual(widest(self.OUTSIDE, piece), ("kind", goal))

    def test_outside(self):
        self.kind(X, N)
        self.kind(pair(Y, X), P(P(N, N), N))

    def test_within_a_form(self):
        self.kind(form("x", X), T(B(0), B(0)))
        self.kind(form("x", Y), T(B(0), P(N, N)))
        self.kind(pair(form("x", X), X), P(T(B(0), B(0)), N))
        self.kind(pair(X, form("x", X)), P(N, T(B(0), B(0))))
        self.kind(form("x", form("y", X)), T(B(0), T(B(1), B(0))))

    def test_within_the_other_of_a_let(self):
        self.kind(let("x", Y, X), P(N, N))
        self.kind(let("x", Y, pair(X, form("z", X))), P(P(N, N), T(B(0), P(N, N))))
        self.kind(pair(let("x", Y, X), X), P(P(N, N), N))
        self.kind(pair(X, let("x", Y, X)), P(N, P(N, N)))

    def test_within_the_one_of_a_let(self):
        # There it is not the let's name, but that of what lies around the let.
        self.kind(let("x", X, X), N)
        self.kind(let("x", pair(X, X), X), P(N, N))
        self.kind(let("x", pair(X, X), let("x", pair(X, ONE), X)), P(P(N, N), N))
        self.kind(form("x", let("x", pair(X, ONE), X)), T(B(0), P(B(0), N)))
        self.kind(let("y", let("x", ONE, pair(X, Y)), pair(X, Y)), P(N, P(N, P(N, N))))

    def test_a_word_that_an_inner_form_hides(self):
        self.kind(form("x", form("x", X)), T(B(0), T(B(1), B(1))))
        self.kind(form("x", pair(form("x", X), X)), T(B(0), P(T(B(1), B(1)), B(0))))
        self.kind(form("x", pair(X, form("x", X))), T(B(0), P(B(0), T(B(1), B(1)))))

    def test_a_word_that_an_inner_let_hides(self):
        self.kind(let("x", ONE, let("x", Y, X)), P(N, N))
        self.kind(let("x", ONE, pair(let("x", Y, X), X)), P(P(N, N), N))
        self.kind(let("x", Y, let("x", pair(X, X), pair(X, X))),
                  P(P(P(N, N), P(N, N)), P(P(N, N), P(N, N))))

    def test_a_form_in_a_let_and_a_let_in_a_form_with_one_word(self):
        self.kind(let("x", Y, form("x", X)), T(B(0), B(0)))
        self.kind(let("x", Y, pair(form("x", X), X)), P(T(B(0), B(0)), P(N, N)))
        self.kind(form("x", let("x", Y, X)), T(B(0), P(N, N)))
        self.kind(form("x", pair(let("x", Y, X), X)), T(B(0), P(P(N, N), B(0))))
        self.kind(let("x", form("x", X), call(X, ONE)), N)
        self.kind(form("x", let("y", form("x", X), pair(call(Y, ONE), X))), T(B(0), P(N, B(0))))

    def test_an_outside_name_that_a_form_or_let_hides_elsewhere(self):
        self.kind(pair(call(F, X), form("f", call(F, X))), P(P(N, N), T(T(N, B(0)), B(0))))
        self.kind(pair(let("f", Y, F), call(F, X)), P(P(N, N), P(N, N)))

    def test_holds_tells_them_apart_too(self):
        piece = form("x", pair(form("x", X), X))
        for inner, outer, goal in ((B(1), B(0), True), (B(0), B(0), False), (B(1), B(1), False), (B(0), B(1), False)):
            kinds = [T(B(0), P(T(B(1), inner), outer)), P(T(B(1), inner), outer), T(B(1), inner), inner, outer]
            self.assertIs(holds({}, piece, kinds), goal)
        piece = form("x", let("x", pair(X, ONE), X))
        for first, last, goal in ((B(0), P(B(0), N), True), (B(0), B(0), False), (N, P(N, N), False)):
            kinds = [T(B(0), last), last, P(first, N), first, N, last]
            self.assertIs(holds({}, piece, kinds), goal)


class Unknown(unittest.TestCase):
    def refused(self, outside, piece, kinds=None):
        kept = dict(outside)
        if kinds is None:
            kinds = [N] * 10000
        given = list(kinds)
        for ask in (lambda: found_kinds(outside, piece), lambda: widest(outside, piece),
                    lambda: holds(outside, piece, given)):
            with self.assertRaises(NoName) as caught:
                ask()
            self.assertIsInstance(caught.exception, WideError)
            self.assertIsInstance(caught.exception, ValueError)
        self.assertEqual(outside, kept)
        self.assertEqual(given, kinds)

    def accepted(self, outside, piece):
        told = found_kinds(outside, piece)
        self.assertIn(told[0], ("kinds", "clash"))
        self.assertIn(widest(outside, piece)[0], ("kind", "clash"))
        self.assertIn(holds(outside, piece, [N] * 100), (True, False))

    def test_alone(self):
        self.refused({}, X)
        self.refused({"y": N, "xx": N, "X": N}, X)
        self.accepted({"x": N}, X)

    def test_at_each_place(self):
        for around in (lambda piece: form("y", piece), lambda piece: pair(piece, ONE), lambda piece: pair(ONE, piece),
                       lambda piece: call(piece, ONE), lambda piece: call(form("y", Y), piece),
                       lambda piece: let("y", piece, Y), lambda piece: let("y", ONE, piece),
                       lambda piece: let("y", piece, ONE)):
            self.refused({}, around(X))
            self.refused({}, around(pair(ONE, form("z", X))))
            self.accepted({"x": N}, around(X))
            self.accepted({}, around(form("x", X)))

    def test_where_no_form_or_let_with_the_word_reaches(self):
        self.refused({}, pair(form("x", X), X))
        self.refused({}, pair(X, form("x", X)))
        self.refused({}, let("x", X, ONE))
        self.refused({}, let("x", X, X))
        self.refused({}, pair(let("x", ONE, X), X))
        self.refused({}, let("x", let("x", ONE, X), let("y", X, let("z", V, ONE))))
        self.refused({}, let("y", let("x", ONE, X), X))
        self.accepted({}, form("x", let("x", X, X)))

    def test_in_the_one_of_a_let_whose_name_is_never_used(self):
        self.refused({}, let("v", X, ONE))
        self.refused({"f": PAIRED}, form("y", let("v", form("z", call(F, W)), Y)))

    def test_behind_a_call_that_would_clash(self):
        clash = call(ONE, ONE)
        self.assertEqual(widest({}, clash), ("clash", []))
        for piece in (pair(clash, X), pair(X, clash), call(clash, X), call(clash, form("y", X)), let("v", clash, X),
                      let("v", pair(clash, X), ONE), let("v", clash, let("w", X, V)), form("y", pair(call(Y, Y), X)),
                      call(ONE, X), call(X, ONE)):
            self.refused({}, piece)
        self.assertEqual(widest({"x": N}, pair(clash, X)), ("clash", [0]))

    def test_where_the_kinds_do_not_stand(self):
        self.refused({}, pair(ONE, X), [N, P(N, N), T(N, N)])
        self.refused({}, pair(X, ONE), [P(N, N), N, P(N, N)])
        self.refused({}, form("y", X), [N, N])
        self.refused({"x": N}, pair(X, Y), [N, N, N])

    def test_five_thousand_deep(self):
        self.refused({}, nested(4998, lambda piece, n: form("y", piece), X))
        self.refused({}, nested(2499, lambda piece, n: let("y", piece, ONE), X))
        self.refused({}, nested(2499, lambda piece, n: pair(ONE, piece), X))
        self.refused({}, nested(2490, lambda piece, n: call(piece, ONE), pair(call(ONE, ONE), X)))

    def test_outside_may_have_more_than_is_used(self):
        self.assertEqual(widest({"f": PAIRED, "g": B(4), "zzz": N}, ONE), ("kind", N))
        self.assertEqual(found_kinds({"f": PAIRED, "g": B(4)}, form("g", F)),
                         ("kinds", [T(B(0), T(B(1), P(B(1), B(1)))), T(B(1), P(B(1), B(1)))]))

    def test_all_small_pieces(self):
        told = {True: 0, False: 0}
        for outside in ({}, {"x": N}, {"y": T(B(0), B(0))}):
            for piece in [piece for size in range(1, 5) for piece in all_pieces(size, "xy")]:
                known = outside_words(piece) <= set(outside)
                told[known] += 1
                if known:
                    self.accepted(outside, piece)
                else:
                    self.refused(outside, piece, [N] * 4)
        self.assertGreater(min(told.values()), 300)


if __name__ == "__main__":
    unittest.main()
