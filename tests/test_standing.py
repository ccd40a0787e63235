import random
import unittest

from piece_support import (
    F, G, ONE, V, W, X, Y, Z, all_pieces, call, form, holds_plainly, let, name, nested, pair, pieces_of,
    some_pieces, word,
)
from support import B, N, P, T, blanks_of, fits_by_putting, put, size, small_kinds
from widekind.finding import found_kinds
from widekind.standing import holds

BIG = 10 ** 60 - 1
SAME = form("z", Z)
OUTSIDE = {"f": T(B(0), B(0)), "g": T(B(7), P(B(10 ** 20), B(7))), "x": N, "y": B(3), "z": T(N, T(B(0), N))}


class Stands(unittest.TestCase):
    def yes(self, piece, kinds, outside=()):
        self.assertIs(holds(dict(outside), piece, kinds), True)

    def no(self, piece, kinds, outside=()):
        self.assertIs(holds(dict(outside), piece, kinds), False)


class Rules(Stands):
    def test_numbers(self):
        for n in (0, -5, BIG):
            self.yes(("number", n), [N])
            for kind in (B(0), P(N, N), T(N, N)):
                self.no(("number", n), [kind])

    def test_pairs(self):
        self.yes(pair(ONE, ONE), [P(N, N), N, N])
        self.yes(pair(X, Y), [P(B(4), T(N, N)), B(4), T(N, N)], {"x": B(0), "y": B(0)})
        self.no(pair(ONE, ONE), [T(N, N), N, N])
        self.no(pair(ONE, ONE), [N, N, N])
        self.no(pair(ONE, ONE), [B(0), N, N])
        self.no(pair(X, Y), [P(N, B(4)), B(4), N], {"x": B(0), "y": B(0)})
        self.no(pair(X, Y), [P(B(4), B(4)), B(4), B(5)], {"x": B(0), "y": B(0)})
        self.no(pair(X, Y), [P(B(4), B(5)), B(5), B(4)], {"x": B(0), "y": B(0)})

    def test_forms(self):
        self.yes(form("x", X), [T(B(0), B(0)), B(0)])
        self.yes(form("x", X), [T(N, N), N])
        self.yes(form("x", X), [T(T(B(3), N), T(B(3), N)), T(B(3), N)])
        self.yes(form("x", ONE), [T(B(8), N), N])
        self.no(form("x", X), [T(B(0), B(1)), B(1)])
        self.no(form("x", X), [T(B(0), B(0)), B(1)])
        self.no(form("x", X), [T(N, N), B(0)])
        self.no(form("x", X), [T(B(0), B(1)), B(0)])
        self.no(form("x", X), [P(N, N), N])
        self.no(form("x", X), [N, N])
        self.no(form("x", X), [B(0), B(0)])
        self.no(form("x", ONE), [N, N])
        self.no(form("x", ONE), [B(0), N])
        self.no(form("x", ONE), [P(N, N), N])

    def test_all_names_of_a_form_have_one_kind(self):
        piece = form("x", pair(X, X))
        self.yes(piece, [T(B(0), P(B(0), B(0))), P(B(0), B(0)), B(0), B(0)])
        self.no(piece, [T(B(0), P(B(0), B(1))), P(B(0), B(1)), B(0), B(1)])
        self.no(piece, [T(B(0), P(N, B(0))), P(N, B(0)), N, B(0)])
        self.no(piece, [T(B(0), P(B(0), N)), P(B(0), N), B(0), N])
        self.no(piece, [T(B(0), P(N, N)), P(N, N), N, N])

    def test_calls(self):
        piece = call(F, ONE)
        outside = {"f": B(0)}
        self.yes(piece, [N, T(N, N), N], outside)
        self.yes(piece, [B(2), T(N, B(2)), N], outside)
        self.no(piece, [N, T(N, B(2)), N], outside)
        self.no(piece, [N, T(B(0), N), N], outside)
        self.no(piece, [N, P(N, N), N], outside)
        self.no(piece, [N, N, N], outside)
        self.no(piece, [N, B(0), N], outside)
        self.no(call(F, SAME), [N, T(T(N, N), N), T(B(0), B(0)), B(0)], outside)
        self.yes(call(F, SAME), [N, T(T(B(0), B(0)), N), T(B(0), B(0)), B(0)], outside)

    def test_outside_names(self):
        for n in (0, 7, 10 ** 20):
            wide = {"f": T(B(n), P(B(n), B(n + 1)))}
            self.yes(F, [wide["f"]], wide)
            self.yes(F, [T(B(0), P(B(0), B(1)))], wide)
            self.yes(F, [T(N, P(N, T(N, B(0))))], wide)
            self.yes(F, [T(B(n + 1), P(B(n + 1), B(n)))], wide)
            self.yes(F, [T(P(B(n), N), P(P(B(n), N), B(n)))], wide)
            self.no(F, [T(B(n), P(B(n + 1), B(n)))], wide)
            self.no(F, [T(N, P(B(n), N))], wide)
            self.no(F, [T(N, N)], wide)
            self.no(F, [B(n)], wide)
            self.no(F, [N], wide)
        self.no(X, [B(0)], {"x": N})
        self.no(X, [P(N, N)], {"x": N})

    def test_an_outside_name_at_several_kinds(self):
        wide = {"f": T(B(0), B(0))}
        self.yes(pair(F, F), [P(T(N, N), T(B(3), B(3))), T(N, N), T(B(3), B(3))], wide)
        self.yes(pair(F, F), [P(T(N, N), T(N, N)), T(N, N), T(N, N)], wide)
        self.no(pair(F, F), [P(T(N, N), T(B(3), B(4))), T(N, N), T(B(3), B(4))], wide)
        self.no(pair(F, F), [P(T(N, B(0)), T(N, N)), T(N, B(0)), T(N, N)], wide)
        # A form around it keeps nothing of it, whatever numbers its blanks have.
        self.yes(form("x", F), [T(B(0), T(N, N)), T(N, N)], wide)


class Lets(Stands):
    def test_the_kind_of_a_let(self):
        self.yes(let("v", ONE, SAME), [T(B(0), B(0)), N, T(B(0), B(0)), B(0)])
        self.no(let("v", ONE, SAME), [T(B(1), B(1)), N, T(B(0), B(0)), B(0)])
        self.no(let("v", ONE, SAME), [N, N, T(B(0), B(0)), B(0)])
        self.no(let("v", SAME, V), [T(N, N), T(B(0), B(0)), B(0), T(B(0), B(0))])

    def test_the_one_of_a_let_whose_name_is_never_used(self):
        self.yes(let("v", SAME, ONE), [N, T(N, N), N, N])
        self.no(let("v", SAME, ONE), [N, T(N, B(0)), B(0), N])
        self.no(let("v", ONE, ONE), [N, P(N, N), N])

    def test_a_name_with_something_put_in(self):
        wide = T(B(0), B(0))
        for kind in (wide, T(B(9), B(9)), T(N, N), T(P(B(0), N), P(B(0), N))):
            self.yes(let("v", SAME, V), [kind, wide, B(0), kind])
        for kind in (T(B(0), B(1)), T(N, B(0)), N, B(0), P(N, N)):
            self.no(let("v", SAME, V), [kind, wide, B(0), kind])
        # The `one` itself may have less than its widest kind; then its names have no more.
        self.yes(let("v", SAME, V), [T(N, N), T(N, N), N, T(N, N)])
        self.no(let("v", SAME, V), [wide, T(N, N), N, wide])

    def test_another_for_each_name(self):
        def kinds(one, other):
            return [P(one, other), T(B(0), B(0)), B(0), P(one, other), one, other]
        piece = let("v", SAME, pair(V, V))
        self.yes(piece, kinds(T(N, N), T(B(0), B(0))))
        self.yes(piece, kinds(T(N, N), T(P(N, N), P(N, N))))
        self.yes(piece, kinds(T(B(1), B(1)), T(B(1), B(1))))
        self.no(piece, kinds(T(N, N), T(N, B(0))))
        self.no(piece, kinds(N, T(N, N)))

    def test_a_kept_blank(self):
        # x has blank 0, which is kept; so v has it, and nothing else can be put in its place.
        piece = form("x", let("v", X, V))
        self.yes(piece, [T(B(0), B(0))] + [B(0)] * 3)
        for kind in (B(1), N, P(B(0), B(0))):
            self.no(piece, [T(B(0), kind), kind, B(0), kind])

    def test_one_that_is_kept_and_one_that_is_not(self):
        piece = form("x", let("v", form("y", pair(X, Y)), V))

        def kinds(first, second):
            told = T(second, P(first, second))
            return [T(B(0), told), told, T(B(1), P(B(0), B(1))), P(B(0), B(1)), B(0), B(1), told]
        self.yes(piece, kinds(B(0), B(1)))
        self.yes(piece, kinds(B(0), N))
        self.yes(piece, kinds(B(0), B(0)))
        self.yes(piece, kinds(B(0), T(B(7), B(0))))
        self.no(piece, kinds(N, B(1)))
        self.no(piece, kinds(B(1), B(1)))
        self.no(piece, kinds(B(1), B(0)))
        self.no(piece, kinds(B(7), N))

    def test_kept_are_all_blanks_in_what_a_form_is_handed(self):
        piece = form("x", let("v", SAME, V))

        def kinds(handed, kind):
            return [T(handed, kind), kind, T(B(0), B(0)), B(0), kind]
        self.yes(piece, kinds(B(1), T(N, N)))
        self.yes(piece, kinds(N, T(N, N)))
        for handed in (B(0), P(B(1), B(0)), T(P(N, T(B(0), N)), B(1))):
            self.yes(piece, kinds(handed, T(B(0), B(0))))
            self.no(piece, kinds(handed, T(N, N)))
            self.no(piece, kinds(handed, T(B(1), B(1))))

    def test_only_what_a_form_is_handed_is_kept(self):
        # Blank 0 also stands in the kind of the form's body, but that doesn't matter.
        piece = form("x", let("v", SAME, pair(V, SAME)))
        kinds = [T(B(1), P(T(N, N), T(B(0), B(0)))), P(T(N, N), T(B(0), B(0))), T(B(0), B(0)), B(0),
                 P(T(N, N), T(B(0), B(0))), T(N, N), T(B(0), B(0)), B(0)]
        self.yes(piece, kinds)

    def test_forms_that_cannot_be_used_at_the_let_keep_nothing(self):
        wide, kind = T(B(0), B(0)), T(N, N)
        # One beside it, one in its `one`, one in its `other`.
        self.yes(pair(form("x", ONE), let("v", SAME, V)), [P(T(B(0), N), kind), T(B(0), N), N, kind, wide, B(0), kind])
        self.yes(pair(let("v", SAME, V), form("x", ONE)), [P(kind, T(B(0), N)), kind, wide, B(0), kind, T(B(0), N), N])
        self.yes(let("v", SAME, form("x", V)), [T(B(0), kind), wide, B(0), T(B(0), kind), kind])
        # One that another hides: the outer x has blank 0, and the inner one has not.
        piece = form("x", form("x", let("v", SAME, V)))
        self.yes(piece, [T(B(0), T(B(1), kind)), T(B(1), kind), kind, wide, B(0), kind])
        self.no(piece, [T(B(1), T(B(0), kind)), T(B(0), kind), kind, wide, B(0), kind])
        # One that a let hides.
        piece = form("x", let("x", ONE, let("v", SAME, V)))
        self.yes(piece, [T(B(0), kind), kind, N, kind, wide, B(0), kind])
        # But in the `one` of a let with its word the form's name can be used.
        piece = form("x", let("x", let("v", SAME, V), ONE))
        self.no(piece, [T(B(0), N), N, kind, wide, B(0), kind, N])
        # And again behind the form that hid it.
        piece = form("x", pair(form("x", ONE), let("v", SAME, V)))
        self.no(piece, [T(B(0), P(T(B(1), N), kind)), P(T(B(1), N), kind), T(B(1), N), N, kind, wide, B(0), kind])
        self.yes(piece, [T(B(1), P(T(B(0), N), kind)), P(T(B(0), N), kind), T(B(0), N), N, kind, wide, B(0), kind])

    def test_two_forms_that_keep_one_blank(self):
        wide, kind = T(B(0), B(0)), T(N, N)
        # The inner y is left behind again, but x keeps the blank still.
        piece = form("x", pair(form("y", ONE), let("v", SAME, V)))
        self.no(piece, [T(B(0), P(T(B(0), N), kind)), P(T(B(0), N), kind), T(B(0), N), N, kind, wide, B(0), kind])
        piece = form("x", form("y", let("v", SAME, V)))
        for first, second in ((B(0), B(0)), (B(0), N), (N, B(0))):
            self.no(piece, [T(first, T(second, kind)), T(second, kind), kind, wide, B(0), kind])
        self.yes(piece, [T(N, T(B(1), kind)), T(B(1), kind), kind, wide, B(0), kind])

    def test_the_let_itself_keeps_nothing_for_itself(self):
        self.yes(let("v", SAME, V), [T(N, N), T(B(0), B(0)), B(0), T(N, N)])
        # Nor does another whose blank isn't kept for it.
        piece = let("w", SAME, let("v", SAME, V))
        self.yes(piece, [T(N, N), T(B(0), B(0)), B(0), T(N, N), T(B(0), B(0)), B(0), T(N, N)])

    def test_kept_by_way_of_another_let(self):
        piece = form("x", let("w", X, form("x", let("y", W, Y))))

        def kinds(inner, kind):
            return [T(B(0), T(inner, kind)), T(inner, kind), B(0), T(inner, kind), kind, B(0), kind]
        for inner in (B(1), N, B(0)):
            self.yes(piece, kinds(inner, B(0)))
            for kind in (N, B(1), T(B(0), B(0))):
                self.no(piece, kinds(inner, kind))

    def test_kept_by_way_of_another_let_that_is_hidden_too(self):
        # Here neither x nor w can be used at the let of y, though its `one` has the blank.
        piece = form("x", let("w", X, form("x", form("w", let("y", SAME, Y)))))
        kind = T(N, N)
        outer = [T(B(0), T(B(1), T(B(2), kind))), T(B(1), T(B(2), kind)), B(0), T(B(1), T(B(2), kind)), T(B(2), kind)]
        self.yes(piece, outer + [kind, T(B(0), B(0)), B(0), kind])
        # Here w can be used, and keeps the blank for y.
        piece = form("x", let("w", X, form("x", form("u", let("y", SAME, Y)))))
        self.no(piece, outer + [kind, T(B(0), B(0)), B(0), kind])
        self.yes(piece, outer + [kind, T(B(3), B(3)), B(3), kind])

    def test_what_is_not_kept_for_another_let_is_not_kept_by_way_of_it(self):
        # Blank 0 is kept for w, blank 5 isn't.
        piece = form("x", let("w", pair(X, SAME), form("x", let("y", W, Y))))

        def kinds(first, second):
            told = P(first, T(second, second))
            one = P(B(0), T(B(5), B(5)))
            inner = T(B(1), told)
            return [T(B(0), inner), inner, one, B(0), T(B(5), B(5)), B(5), inner, told, one, told]
        self.yes(piece, kinds(B(0), B(5)))
        self.yes(piece, kinds(B(0), N))
        self.no(piece, kinds(N, B(5)))
        self.no(piece, kinds(B(5), B(5)))

    def test_kept_through_several_lets(self):
        piece = form("x", let("w", X, form("x", let("y", W, form("w", let("v", Y, V))))))

        def kinds(last):
            told = T(B(1), T(B(2), last))
            return [T(B(0), told), told, B(0), told, T(B(2), last), B(0), T(B(2), last), last, B(0), last]
        self.yes(piece, kinds(B(0)))
        self.no(piece, kinds(N))
        self.no(piece, kinds(B(3)))


class Found(Stands):
    PIECES = [
        pair(SAME, ONE), let("v", SAME, pair(call(V, ONE), call(V, V))), form("x", let("v", X, pair(V, V))),
        form("x", let("v", form("y", pair(X, Y)), pair(call(V, ONE), call(V, V)))),
        form("x", let("w", X, form("x", let("y", W, pair(Y, X))))),
        let("v", let("w", SAME, pair(W, W)), pair(V, V)), pair(call(F, ONE), call(G, F)),
        form("x", form("y", form("z", call(call(X, Z), call(Y, Z))))),
    ]

    def test_what_is_found_stands(self):
        for piece in self.PIECES:
            told = found_kinds(OUTSIDE, piece)
            self.assertEqual(told[0], "kinds")
            self.yes(piece, told[1], OUTSIDE)

    def test_it_stands_with_something_put_in_throughout(self):
        for piece in self.PIECES:
            kinds = found_kinds(OUTSIDE, piece)[1]
            numbers = sorted({n for kind in kinds for n in blanks_of(kind)})
            self.yes(piece, [put(kind, {n: B(n + 100) for n in numbers}) for kind in kinds], OUTSIDE)
            # Those of the whole piece's kind are not ones that a let's names have anew.
            for given in ({n: N for n in blanks_of(kinds[0])}, {n: P(B(n), N) for n in blanks_of(kinds[0])}):
                self.yes(piece, [put(kind, given) for kind in kinds], OUTSIDE)
            for n in numbers:
                for new in (N, T(B(BIG), N)):
                    changed = [put(kind, {n: new}) for kind in kinds]
                    self.assertIs(holds(OUTSIDE, piece, changed), holds_plainly(OUTSIDE, piece, changed))

    def test_one_kind_made_another(self):
        for piece in self.PIECES:
            kinds = found_kinds(OUTSIDE, piece)[1]
            for place, kind in enumerate(kinds):
                for new in (P(kind, kind), P(T(N, N), N), T(N, P(N, P(N, N)))):
                    self.no(piece, kinds[:place] + [new] + kinds[place + 1:], OUTSIDE)

    def test_pieces_by_chance(self):
        chance = random.Random(4)
        told = {True: 0, False: 0}
        for piece in some_pieces(8, 1500, range(2, 24), "fgxyz"):
            answer = found_kinds(OUTSIDE, piece)
            if answer[0] == "clash":
                continue
            self.yes(piece, answer[1], OUTSIDE)
            for _ in range(4):
                kinds = self.changed(chance, answer[1])
                goal = holds_plainly(OUTSIDE, piece, kinds)
                self.assertIs(holds(OUTSIDE, piece, kinds), goal, (piece, kinds))
                told[goal] += 1
                if goal:
                    self.assertTrue(fits_by_putting(answer[1][0], kinds[0]))
        self.assertGreater(min(told.values()), 1000)

    def changed(self, chance, kinds):
        kinds = list(kinds)
        numbers = sorted({n for kind in kinds for n in blanks_of(kind)}) + [BIG]
        if chance.random() < 0.6:
            some = [N, B(chance.choice(numbers)), T(B(0), N)]
            given = {chance.choice(numbers): chance.choice(some) for _ in range(2)}
            kinds = [put(kind, given) for kind in kinds]
        if chance.random() < 0.6:
            place = chance.randrange(len(kinds))
            given = {n: chance.choice([N, B(0), B(BIG), B(n)]) for n in blanks_of(kinds[place])}
            kinds[place] = put(kinds[place], given) if chance.random() < 0.7 else chance.choice(kinds)
        return kinds

    def test_all_kinds_of_a_handful_for_the_smallest_pieces(self):
        some = small_kinds([N, B(0)], 1)
        told = {True: 0, False: 0}
        for piece in [piece for count in range(1, 4) for piece in all_pieces(count, "fx")]:
            lists = [[]]
            for _ in pieces_of(piece):
                lists = [kinds + [kind] for kinds in lists for kind in some]
            for kinds in lists:
                goal = holds_plainly(OUTSIDE, piece, kinds)
                self.assertIs(holds(OUTSIDE, piece, kinds), goal, (piece, kinds))
                told[goal] += 1
        self.assertGreater(min(told.values()), 40)


class Great(Stands):
    def test_kinds_of_thirteen_hundred_kinds(self):
        for side in (lambda kind, n: T(B(n), kind), lambda kind, n: P(kind, B(n))):
            kind = nested(649, side, B(BIG))
            other = nested(649, side, B(649))
            self.assertEqual(size(kind), 1299)
            wide = {"f": nested(649, side, B(700)), "x": B(0)}
            self.yes(F, [kind], wide)
            self.yes(X, [kind], wide)
            self.no(F, [nested(648, side, N)], wide)
            self.no(F, [nested(650, side, N)], {"f": nested(650, side, P(N, B(0)))})
            self.yes(form("x", X), [T(kind, kind), kind])
            self.no(form("x", X), [T(kind, other), other])
            self.no(form("x", X), [T(kind, other), kind])
            self.yes(let("v", F, V), [other, kind, other], wide)
            self.no(form("x", let("v", F, V)), [T(B(BIG), other), other, kind, other], wide)
            self.yes(form("x", let("v", F, V)), [T(B(5), other), other, kind, other], wide)

    def test_deep_pieces(self):
        piece = nested(640, lambda piece, n: form(word(n), piece), name(word(639)))
        kinds = found_kinds({}, piece)[1]
        self.yes(piece, kinds)
        self.no(piece, kinds[:-1] + [N])
        piece = nested(2499, lambda piece, n: call(F, piece), ONE)
        kinds = found_kinds({"f": T(B(0), B(0))}, piece)[1]
        self.yes(piece, kinds, {"f": T(B(7), B(7))})
        self.no(piece, kinds[:2] + [P(N, N)] + kinds[3:], {"f": T(B(7), B(7))})
        self.no(piece, kinds[:-1] + [B(0)], {"f": T(B(7), B(7))})

    def test_deep_lets(self):
        piece = nested(1600, lambda piece, n: let("v", piece, call(V, V)), SAME)
        kinds = found_kinds({}, piece)[1]
        self.yes(piece, kinds)
        self.no(piece, kinds[:-1] + [N])
        # Each x hides the one around it, and each v too.
        told = nested(300, lambda kind, n: T(B(299 - n), kind), B(299))
        piece = nested(300, lambda piece, n: form("x", let("v", X, piece)), V)
        kinds = []
        for n in range(300):
            kinds.extend([told, told[2], B(n)])
            told = told[2]
        self.yes(piece, kinds + [B(299)])
        self.no(piece, kinds + [B(298)])
        self.no(piece, kinds + [N])


if __name__ == "__main__":
    unittest.main()
