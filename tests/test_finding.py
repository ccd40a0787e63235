import random
import unittest

from piece_support import (
    F, G, ONE, V, W, X, Y, Z, all_pieces, call, form, found_plainly, let, name, nested, pair, paths_of, piece_at,
    some_pieces, word,
)
from support import B, N, P, T, alike_all_through, counted, fits_by_putting, size, small_kinds
from widekind.finding import found_kinds, widest
from widekind.kinds import numbered
from widekind.standing import holds

BIG = 10 ** 60 - 1
TWENTY = 10 ** 20
SAME = form("z", Z)
TWICE = T(B(0), P(B(0), B(0)))


class Answers(unittest.TestCase):
    def kind(self, piece, goal, outside=()):
        outside = dict(outside)
        self.assertEqual(widest(outside, piece), ("kind", goal))
        told = found_kinds(outside, piece)
        self.assertEqual(told[0], "kinds")
        self.assertEqual(counted(told[1][0]), goal)

    def kinds(self, piece, goal, outside=()):
        outside = dict(outside)
        self.assertEqual(found_kinds(outside, piece), ("kinds", goal))
        self.assertEqual(widest(outside, piece), ("kind", counted(goal[0])))

    def clash(self, piece, path, outside=()):
        outside = dict(outside)
        for told in (found_kinds(outside, piece), widest(outside, piece)):
            self.assertEqual(told, ("clash", path))
            self.assertIs(type(told), tuple)
            self.assertIs(type(told[1]), list)


class Plain(Answers):
    def test_numbers(self):
        for n in (0, 1, -1, BIG, -BIG):
            self.kinds(("number", n), [N])

    def test_outside_names(self):
        self.kinds(X, [N], {"x": N})
        self.kinds(X, [B(0)], {"x": B(5)})
        self.kinds(X, [T(P(B(0), N), B(1))], {"x": T(P(B(BIG), N), B(2))})

    def test_outside_names_more_than_once(self):
        # Each name has blanks of its own, whatever numbers the wide kind has.
        for n in (0, 7, TWENTY, BIG):
            self.kinds(pair(X, X), [P(B(0), B(1)), B(0), B(1)], {"x": B(n)})
            self.kind(pair(call(F, ONE), call(F, F)), P(N, T(B(0), B(0))), {"f": T(B(n), B(n))})
            self.kind(pair(F, pair(F, F)), P(T(B(0), B(0)), P(T(B(1), B(1)), T(B(2), B(2)))), {"f": T(B(n), B(n))})
        self.kind(pair(F, X), P(T(B(0), P(B(1), B(2))), P(B(3), B(4))),
                  {"f": T(B(0), P(B(7), B(TWENTY))), "x": P(B(7), B(0))})
        self.kind(call(call(G, X), Y), P(B(0), B(1)), {"g": T(B(7), T(B(0), P(B(7), B(0)))), "x": B(0), "y": B(7)})

    def test_one_blank_of_an_outside_name_stands_for_one_kind(self):
        self.kind(call(F, ONE), P(N, N), {"f": TWICE})
        self.kind(call(F, X), P(P(N, B(0)), P(N, B(0))), {"f": T(B(7), P(B(7), B(7))), "x": P(N, B(7))})
        self.clash(call(F, pair(ONE, F)), [], {"f": T(P(B(0), B(0)), B(0))})

    def test_pairs(self):
        self.kinds(pair(ONE, ONE), [P(N, N), N, N])
        self.kinds(pair(pair(ONE, SAME), ONE), [
            P(P(N, T(B(0), B(0))), N), P(N, T(B(0), B(0))), N, T(B(0), B(0)), B(0), N,
        ])

    def test_forms(self):
        self.kinds(form("x", X), [T(B(0), B(0)), B(0)])
        self.kinds(form("x", ONE), [T(B(0), N), N])
        self.kinds(form("x", form("y", pair(Y, X))),
                   [T(B(0), T(B(1), P(B(1), B(0)))), T(B(1), P(B(1), B(0))), P(B(1), B(0)), B(1), B(0)])

    def test_calls(self):
        self.kinds(call(form("x", X), ONE), [N, T(N, N), N, N])
        self.kinds(form("f", call(F, ONE)), [T(T(N, B(0)), B(0)), B(0), T(N, B(0)), N])
        self.kind(form("f", form("x", call(F, call(F, X)))), T(T(B(0), B(0)), T(B(0), B(0))))
        self.kind(form("f", form("g", form("x", call(F, call(G, X))))),
                  T(T(B(0), B(1)), T(T(B(2), B(0)), T(B(2), B(1)))))
        self.kind(form("x", form("y", form("z", call(call(X, Z), call(Y, Z))))),
                  T(T(B(0), T(B(1), B(2))), T(T(B(0), B(1)), T(B(0), B(2)))))

    def test_what_a_form_is_handed_is_one_kind_throughout(self):
        self.kinds(form("x", pair(X, call(F, X))), [T(N, P(N, N)), P(N, N), N, N, T(N, N), N], {"f": T(N, N)})
        self.clash(form("f", pair(call(F, ONE), call(F, F))), [0, 1])
        self.clash(form("f", pair(call(F, ONE), call(F, pair(ONE, ONE)))), [0, 1])

    def test_blanks_are_counted_through_the_list(self):
        self.kinds(pair(form("x", X), form("x", form("y", X))), [
            P(T(B(0), B(0)), T(B(1), T(B(2), B(1)))), T(B(0), B(0)), B(0), T(B(1), T(B(2), B(1))), T(B(2), B(1)), B(1),
        ])
        # What is thrown away has blanks that come only later in the list.
        self.kinds(call(form("x", ONE), SAME), [N, T(T(B(0), B(0)), N), N, T(B(0), B(0)), B(0)])
        self.kinds(let("v", SAME, ONE), [N, T(B(0), B(0)), B(0), N])
        self.kinds(let("v", SAME, V), [T(B(0), B(0)), T(B(1), B(1)), B(1), T(B(0), B(0))])
        self.kinds(let("v", SAME, pair(V, V)), [
            P(T(B(0), B(0)), T(B(1), B(1))), T(B(2), B(2)), B(2), P(T(B(0), B(0)), T(B(1), B(1))), T(B(0), B(0)),
            T(B(1), B(1)),
        ])
        self.kinds(pair(let("v", form("x", form("y", Y)), ONE), X), [
            P(N, B(0)), N, T(B(1), T(B(2), B(2))), T(B(2), B(2)), B(2), N, B(0),
        ], {"x": B(3)})

    def test_the_answer_is_of_lists_and_tuples(self):
        told = found_kinds({}, pair(SAME, ONE))
        self.assertIs(type(told), tuple)
        self.assertIs(type(told[1]), list)
        self.assertIs(type(told[1][0]), tuple)
        self.assertIs(type(told[1][0][1]), tuple)
        self.assertIs(type(widest({}, ONE)), tuple)
        self.assertIs(type(widest({}, ONE)[1]), tuple)


class Lets(Answers):
    def test_a_name_used_at_two_kinds(self):
        self.kinds(let("v", SAME, pair(call(V, ONE), call(V, V))), [
            P(N, T(B(0), B(0))), T(B(1), B(1)), B(1), P(N, T(B(0), B(0))), N, T(N, N), N,
            T(B(0), B(0)), T(T(B(0), B(0)), T(B(0), B(0))), T(B(0), B(0)),
        ])
        piece = let("v", F, pair(call(V, ONE), call(V, pair(ONE, ONE))))
        self.kind(piece, P(P(N, N), P(P(N, N), P(N, N))), {"f": TWICE})

    def test_a_name_never_used(self):
        self.kinds(let("v", SAME, ONE), [N, T(B(0), B(0)), B(0), N])
        self.kind(form("x", let("v", call(X, ONE), ONE)), T(T(N, B(0)), N))
        self.clash(let("v", call(ONE, ONE), ONE), [0])
        self.clash(let("v", form("x", call(X, X)), ONE), [0, 0])
        self.clash(let("v", let("w", call(ONE, ONE), ONE), call(ONE, ONE)), [0, 0])

    def test_a_name_used_within_a_form(self):
        self.kind(let("v", SAME, form("x", call(V, X))), T(B(0), B(0)))
        self.kind(let("v", SAME, form("x", pair(call(V, X), call(V, ONE)))), T(B(0), P(B(0), N)))
        self.kind(let("v", SAME, form("x", form("v", call(V, X)))), T(B(0), T(T(B(0), B(1)), B(1))))

    def test_a_let_within_the_one_of_a_let(self):
        self.kind(let("v", let("w", SAME, call(W, W)), pair(call(V, ONE), call(V, V))), P(N, T(B(0), B(0))))
        self.kind(let("v", let("w", SAME, form("x", call(W, X))), pair(call(V, ONE), call(V, V))), P(N, T(B(0), B(0))))
        self.kind(let("v", let("w", SAME, pair(W, W)), pair(V, V)),
                  P(P(T(B(0), B(0)), T(B(1), B(1))), P(T(B(2), B(2)), T(B(3), B(3)))))
        self.kind(let("v", form("x", let("w", pair(X, SAME), W)), pair(call(V, ONE), call(V, V))),
                  P(P(N, T(B(0), B(0))), P(T(B(1), P(B(1), T(B(2), B(2)))), T(B(3), B(3)))))

    def test_a_let_within_the_other_of_a_let(self):
        self.kind(let("v", SAME, let("w", call(V, V), pair(call(W, ONE), W))), P(N, T(B(0), B(0))))
        self.kind(let("v", SAME, let("w", V, pair(call(W, ONE), call(W, V)))), P(N, T(B(0), B(0))))

    def test_a_blank_that_is_kept(self):
        self.kinds(form("x", let("v", X, pair(V, V))), [
            T(B(0), P(B(0), B(0))), P(B(0), B(0)), B(0), P(B(0), B(0)), B(0), B(0),
        ])
        self.kind(form("x", let("v", X, call(V, ONE))), T(T(N, B(0)), B(0)))
        self.clash(form("x", let("v", X, pair(call(V, ONE), call(V, V)))), [0, 1, 1])
        self.clash(form("x", let("v", X, call(V, V))), [0, 1])
        self.clash(form("x", let("v", X, pair(call(V, ONE), call(V, pair(ONE, ONE))))), [0, 1, 1])

    def test_a_blank_that_is_not_kept_beside_one_that_is(self):
        piece = form("x", let("v", form("y", X), pair(call(V, ONE), call(V, V))))
        self.kind(piece, T(B(0), P(B(0), B(0))))
        piece = form("x", let("v", form("y", pair(X, Y)), pair(call(V, ONE), call(V, V))))
        self.kind(piece, T(B(0), P(P(B(0), N), P(B(0), T(B(1), P(B(0), B(1)))))))
        self.kind(form("x", let("v", pair(X, SAME), pair(V, V))),
                  T(B(0), P(P(B(0), T(B(1), B(1))), P(B(0), T(B(2), B(2))))))

    def test_a_blank_that_comes_to_be_kept_within_the_one(self):
        # The kind of y is made that of x before the let's name is used: then it is kept as well.
        same = {"f": T(B(0), T(B(0), B(0)))}
        piece = form("x", let("v", form("y", call(call(F, X), Y)), pair(V, V)))
        self.kind(piece, T(B(0), P(T(B(0), B(0)), T(B(0), B(0)))), same)
        self.clash(form("x", let("v", form("y", call(call(F, X), Y)), pair(call(V, ONE), call(V, V)))), [0, 1, 1], same)
        piece = form("x", let("v", form("y", call(call(F, X), pair(Y, Y))), pair(V, V)))
        self.kind(piece, T(P(B(0), B(0)), P(T(B(0), P(B(0), B(0))), T(B(0), P(B(0), B(0))))), same)

    def test_a_blank_that_comes_to_be_kept_deep_in_another_kind(self):
        same = {"f": T(B(0), T(B(0), B(0)))}
        for around, kind_around in (
            (lambda piece, n: pair(piece, ONE), lambda kind, n: P(kind, N)),
            (lambda piece, n: pair(ONE, piece), lambda kind, n: P(N, kind)),
        ):
            for count in (2, 3, 10, 400):
                # The kind of x becomes one in which that of y lies deep.
                one = form("y", call(call(F, X), nested(count, around, Y)))
                deep = nested(count, kind_around, B(0))
                told = widest(same, form("x", let("v", one, pair(V, V))))[1]
                self.assertTrue(alike_all_through(told, T(deep, P(T(B(0), deep), T(B(0), deep)))))
                self.clash(form("x", let("v", one, pair(call(V, ONE), call(V, V)))), [0, 1, 1], same)

    def test_a_blank_in_what_a_kept_one_has_become_by_way_of_another(self):
        same = {"f": T(B(0), T(B(0), B(0)))}
        # Within the `one` of v the kind of x first becomes a pair with that of y, and then w is given y.
        late = form("u", let("w", Y, pair(W, W)))
        piece = form("x", let("v", form("y", call(late, call(call(F, X), pair(Y, ONE)))), V))
        self.kind(piece, T(P(B(0), N), T(B(0), P(B(0), B(0)))), same)

    def test_a_kept_blank_that_becomes_something_after_the_let(self):
        self.kinds(form("x", let("v", X, pair(V, call(F, X)))), [
            T(N, P(N, N)), P(N, N), N, P(N, N), N, N, T(N, N), N,
        ], {"f": T(N, N)})
        self.kind(form("x", let("v", form("y", X), pair(call(V, V), call(F, X)))), T(N, P(N, N)), {"f": T(N, N)})
        self.kind(call(form("x", let("v", form("y", X), pair(call(V, V), V))), ONE), P(N, T(B(0), N)))

    def test_the_example_of_point_9(self):
        def example(one):
            return form("x", let("w", X, form("x", let("y", W, one))))
        self.kind(example(Y), T(B(0), T(B(1), B(0))))
        self.kind(example(pair(Y, Y)), T(B(0), T(B(1), P(B(0), B(0)))))
        self.kind(example(pair(Y, X)), T(B(0), T(B(1), P(B(0), B(1)))))
        self.kind(example(call(Y, ONE)), T(T(N, B(0)), T(B(1), B(0))))
        # Were the blank not kept for y, it could be used at two kinds, and handed itself.
        self.clash(example(pair(call(Y, ONE), call(Y, Y))), [0, 1, 0, 1, 1])
        self.clash(example(pair(call(Y, ONE), call(Y, pair(ONE, ONE)))), [0, 1, 0, 1, 1])
        self.clash(example(call(Y, Y)), [0, 1, 0, 1])
        self.clash(example(pair(call(Y, ONE), call(ONE, W))), [0, 1, 0, 1, 1])

    def test_kept_by_way_of_several_lets(self):
        def chain(last):
            return form("x", let("w", X, form("x", let("y", pair(W, SAME), form("w", let("v", Y, last))))))
        self.kind(chain(pair(V, V)), T(B(0), T(B(1), T(B(2), P(P(B(0), T(B(3), B(3))), P(B(0), T(B(4), B(4))))))))
        self.kind(chain(call(form("u", X), V)), T(B(0), T(B(1), T(B(2), B(1)))))
        first = {"f": T(P(B(0), B(1)), B(0)), "g": T(P(B(0), B(1)), B(1))}
        self.kind(let("p", chain(call(F, V)), ONE), N, first)
        self.clash(chain(call(call(F, V), call(F, V))), [0, 1, 0, 1, 0, 1], first)
        self.kind(chain(call(call(G, V), call(G, V))), T(B(0), T(B(1), T(B(2), T(B(3), B(3))))), first)

    def test_a_form_that_hides_does_not_keep_for_it(self):
        self.kind(form("x", form("x", let("v", SAME, pair(call(V, ONE), call(V, X))))), T(B(0), T(B(1), P(N, B(1)))))


class Clashes(Answers):
    def test_what_is_called_is_no_function(self):
        self.clash(call(ONE, ONE), [])
        self.clash(call(pair(ONE, ONE), ONE), [])
        self.clash(call(X, ONE), [], {"x": N})
        self.clash(form("x", call(ONE, X)), [0])
        self.clash(pair(call(ONE, ONE), ONE), [0])
        self.clash(pair(ONE, call(ONE, ONE)), [1])
        self.clash(let("v", ONE, call(V, V)), [1])

    def test_what_is_handed_does_not_do(self):
        self.clash(call(F, pair(ONE, ONE)), [], {"f": T(N, N)})
        self.clash(call(F, F), [], {"f": T(N, N)})
        self.clash(call(F, ONE), [], {"f": T(P(B(0), B(1)), B(0))})
        self.clash(call(F, pair(ONE, pair(ONE, ONE))), [], {"f": T(P(B(0), B(0)), B(0))})
        self.clash(call(call(F, ONE), pair(ONE, ONE)), [], {"f": T(B(0), T(B(0), B(0)))})

    def test_a_name_by_itself(self):
        self.clash(form("x", call(X, X)), [0])
        self.clash(form("x", pair(ONE, call(X, X))), [0, 1])
        self.clash(form("x", call(X, pair(ONE, X))), [0])
        self.clash(form("x", call(X, form("y", X))), [0])
        self.clash(form("x", form("y", pair(call(X, Y), call(Y, X)))), [0, 0, 1])
        self.kind(let("x", SAME, call(X, X)), T(B(0), B(0)))
        self.kind(call(X, X), B(0), {"x": B(0)})
        self.kind(call(F, F), T(B(0), B(0)), {"f": T(B(0), B(0))})

    def test_the_first_of_two_in_order(self):
        clash = call(ONE, ONE)
        self.clash(pair(clash, clash), [0])
        self.clash(call(clash, clash), [0])
        self.clash(call(ONE, clash), [1])
        self.clash(call(clash, ONE), [0])
        self.clash(let("v", clash, clash), [0])
        self.clash(form("x", pair(call(X, X), clash)), [0, 0])
        self.clash(form("x", pair(clash, call(X, X))), [0, 0])
        self.clash(form("x", call(call(X, X), call(X, X))), [0, 0])
        self.clash(pair(pair(ONE, form("x", call(X, X))), clash), [0, 1, 0])
        self.clash(call(pair(form("x", clash), ONE), clash), [0, 0, 0])
        self.clash(form("x", pair(call(X, ONE), pair(call(X, X), clash))), [0, 1, 0])

    def test_not_the_call_where_it_could_be_mended_but_the_first_that_cannot_be(self):
        # Each call by itself would do; x is settled by the first that is dealt with.
        piece = form("x", pair(call(F, X), call(G, X)))
        outside = {"f": T(N, N), "g": T(P(N, N), N)}
        self.clash(piece, [0, 1], outside)
        self.clash(form("x", pair(call(G, X), call(F, X))), [0, 1], outside)
        self.clash(form("x", call(form("y", call(G, X)), call(F, X))), [0, 1], outside)
        # The clash shows at the outer call, though what is handed was settled within.
        self.clash(call(form("x", call(F, X)), pair(ONE, ONE)), [], outside)

    def test_the_empty_path_is_a_list(self):
        told = widest({}, call(ONE, ONE))
        self.assertEqual(told[1], [])
        self.assertIs(type(told[1]), list)

    def test_far_behind_calls_that_can_be(self):
        # Many calls that can be made, then two that can't.
        for bad in (call(X, X), call(ONE, ONE), call(X, pair(X, X))):
            for count in (1, 2, 3, 10, 400):
                good = nested(count, lambda piece, n: pair(piece, call(F, X)), ONE)
                piece = form("x", pair(pair(good, pair(good, bad)), pair(bad, good)))
                self.clash(piece, [0, 0, 1, 1], {"f": T(B(0), P(B(1), B(0)))})

    def test_a_clash_is_told_though_what_comes_after_it_would_be_far_too_great(self):
        for bad, path in ((call(X, X), [0, 0]), (call(ONE, ONE), [0, 0])):
            rest = name(word(80))
            for n in reversed(range(80)):
                rest = let(word(n + 1), pair(name(word(n)), name(word(n))), rest)
            self.clash(form("x", pair(bad, let(word(0), SAME, rest))), path)


class Checked(Answers):
    OUTSIDE = {"f": T(B(0), B(0)), "g": T(B(7), P(B(TWENTY), B(7))), "x": N, "y": B(3), "z": T(N, T(B(0), N))}

    def against_the_plain_answer(self, pieces, outside):
        told = {"kinds": 0, "clash": 0}
        for piece in pieces:
            answer = found_kinds(outside, piece)
            self.assertEqual(answer, found_plainly(outside, piece), piece)
            told[answer[0]] += 1
            if answer[0] == "clash":
                self.assertEqual(widest(outside, piece), answer)
                self.assertEqual(piece_at(piece, answer[1])[0], "call")
            else:
                self.assertEqual(len(answer[1]), len(paths_of(piece)))
                self.assertEqual(widest(outside, piece), ("kind", counted(answer[1][0])))
        return told

    def test_all_small_pieces(self):
        pieces = [piece for size in range(1, 6) for piece in all_pieces(size, "fx")]
        told = self.against_the_plain_answer(pieces, self.OUTSIDE)
        self.assertGreater(min(told.values()), 300)

    def test_pieces_by_chance(self):
        for sizes, count in ((range(5, 15), 1500), (range(15, 40), 600)):
            told = self.against_the_plain_answer(some_pieces(3, count, sizes, "fgxyz"), self.OUTSIDE)
            self.assertGreater(min(told.values()), 60)

    def test_pieces_with_many_lets_and_forms(self):
        chance = random.Random(5)

        def some(size, words):
            if size < 2:
                return name(chance.choice(words[-5:]))
            sort = chance.choice(("form", "let", "let", "pair", "call", "f", "g"))
            first = chance.randrange(1, max(size - 1, 2))
            if sort == "form" or size < 3:
                each = chance.choice("uvwxyz")
                return form(each, some(size - 1, words + [each]))
            if sort == "let":
                each = chance.choice("uvwxyz")
                return let(each, some(first, words), some(size - 1 - first, words + [each]))
            if sort in ("f", "g"):
                return call(name(sort), some(size - 2, words))
            return (sort, some(first, words), some(size - 1 - first, words))

        pieces = [some(chance.randrange(10, 50), ["f", "g"]) for _ in range(1000)]
        told = self.against_the_plain_answer(pieces, {"f": T(B(0), B(0)), "g": T(B(7), P(B(TWENTY), B(7)))})
        self.assertGreater(min(told.values()), 150)

    def test_widest_of_all_that_stand(self):
        # For the smallest pieces, all kinds of a handful that stand: each is the widest one with something put in.
        some = small_kinds([N, B(0)], 1) + [T(T(N, N), N), T(P(B(0), N), P(B(0), N))]
        met = 0
        for piece in [piece for size in range(1, 4) for piece in all_pieces(size, "fx")]:
            told = found_kinds(self.OUTSIDE, piece)
            lists = [[]]
            for _ in paths_of(piece):
                lists = [kinds + [kind] for kinds in lists for kind in some]
            for kinds in lists:
                if holds(self.OUTSIDE, piece, kinds):
                    met += 1
                    self.assertEqual(told[0], "kinds", piece)
                    self.assertTrue(fits_by_putting(told[1][0], kinds[0]), (piece, kinds))
        self.assertGreater(met, 50)


class Great(Answers):
    def along(self, kind, steps):
        for step in steps:
            kind = kind[step]
        return kind

    def test_forms_in_forms(self):
        piece = nested(4999, lambda piece, n: form(word(n), piece), ONE)
        told = found_kinds({}, piece)
        self.assertEqual(len(told[1]), 5000)
        for n in (0, 1, 2500, 4998):
            self.assertEqual(told[1][n][:2], ("to", B(n)))
        self.assertEqual(told[1][4999], N)
        goal = nested(4999, lambda kind, n: T(B(4998 - n), kind), N)
        self.assertTrue(alike_all_through(widest({}, piece)[1], goal))

    def test_pairs_in_pairs(self):
        for around, step in ((lambda piece, n: pair(piece, ONE), 1), (lambda piece, n: pair(ONE, piece), 2)):
            piece = nested(2499, around, SAME)
            told = widest({}, piece)
            self.assertEqual(self.along(told[1], [step] * 2499), T(B(0), B(0)))
            self.assertEqual(len(found_kinds({}, piece)[1]), 5000)

    def test_calls_in_calls(self):
        piece = form("x", nested(2499, lambda piece, n: call(piece, ONE), X))
        goal = T(nested(2499, lambda kind, n: T(N, kind), B(0)), B(0))
        self.assertTrue(alike_all_through(widest({}, piece)[1], goal))
        piece = nested(2499, lambda piece, n: call(F, piece), ONE)
        self.kind(piece, N, {"f": T(B(7), B(7))})
        self.clash(nested(2400, lambda piece, n: call(F, piece), call(ONE, ONE)), [1] * 2400, {"f": T(B(7), B(7))})
        self.clash(call(ONE, nested(2499, lambda piece, n: call(F, piece), ONE)), [], {"f": T(B(7), B(7))})
        self.clash(nested(2400, lambda piece, n: call(piece, ONE), F), [0] * 2398, {"f": T(N, N)})

    def test_lets_in_lets(self):
        piece = nested(1600, lambda piece, n: let("v", piece, call(V, V)), SAME)
        told = found_kinds({}, piece)
        self.assertEqual(told[0], "kinds")
        self.assertEqual(counted(told[1][0]), T(B(0), B(0)))
        piece = nested(2400, lambda piece, n: let(word(n), ONE, piece), pair(name(word(0)), name(word(2399))))
        self.kind(piece, P(N, N))
        piece = V
        for n in range(1200):
            piece = let("v", call(F, V), piece)
        self.kind(let("v", SAME, piece), T(B(0), B(0)), {"f": T(B(0), B(0))})
        self.kind(form("v", piece), T(B(0), B(0)), {"f": T(B(0), B(0))})

    def test_lets_and_forms_in_turns(self):
        # Each form's name is kept for all lets further in; the innermost uses the outermost.
        piece = nested(1200, lambda piece, n: form(word(n), let("v", name(word(n)), piece)), pair(V, name(word(1199))))
        told = widest({}, piece)[1]
        self.assertEqual(self.along(told, [2] * 1200), P(B(1199), B(0)))
        piece = nested(800, lambda piece, n: form(word(n), let("v", piece, call(V, name(word(n))))), SAME)
        told = widest({}, piece)
        self.assertEqual(told, ("kind", T(B(0), B(0))))

    def test_a_kind_far_greater_than_the_piece(self):
        for outside, twice in (({"f": TWICE}, F), ({}, form("z", pair(Z, Z)))):
            piece = nested(900, lambda piece, n: call(twice, piece), ONE)
            told = widest(outside, piece)[1]
            self.assertEqual(size(told), 2 ** 901 - 1)
            self.assertEqual(self.along(told, [1, 2] * 450), N)
            kinds = found_kinds(outside, form("x", nested(900, lambda piece, n: call(twice, piece), X)))[1]
            self.assertEqual(size(kinds[0]), 2 ** 901 + 1)
            self.assertEqual(self.along(kinds[0], [2] + [2, 1] * 450), B(0))

    def test_a_kind_that_lets_make_great(self):
        # Each let's name does what the one ahead of it does twice.
        piece = name(word(10))
        for n in reversed(range(10)):
            one = form("y", call(name(word(n)), call(name(word(n)), Y)))
            piece = let(word(n + 1), one, piece)
        told = widest({}, let(word(0), form("z", pair(Z, Z)), piece))[1]
        self.assertEqual(size(told), 2 + 2 ** 1025 - 1)
        # And here each has as many blanks of its own as both together that it is made of.
        piece = name(word(10))
        for n in reversed(range(10)):
            piece = let(word(n + 1), pair(name(word(n)), name(word(n))), piece)
        told = widest({}, let(word(0), SAME, piece))[1]
        self.assertEqual(self.along(told, [2] * 10), T(B(1023), B(1023)))

    def test_great_kinds_that_must_be_one(self):
        outside = {"f": TWICE, "g": T(B(0), T(B(0), N))}
        one = nested(400, lambda piece, n: call(F, piece), X)
        other = nested(400, lambda piece, n: call(F, piece), Y)
        piece = form("x", form("y", call(call(G, one), other)))
        self.kind(piece, T(B(0), T(B(0), N)), outside)
        piece = form("x", form("y", call(call(G, one), call(F, other))))
        self.kind(piece, T(P(B(0), B(0)), T(B(0), N)), outside)
        self.clash(form("x", call(call(G, one), nested(399, lambda piece, n: call(F, piece), X))), [0], outside)

    def test_a_kind_that_would_lie_in_itself_by_way_of_great_ones(self):
        outside = {"f": TWICE}
        for count in (1, 50, 800):
            piece = form("x", call(X, nested(count, lambda piece, n: call(F, piece), X)))
            self.clash(piece, [0], outside)
            piece = form("x", pair(call(X, ONE), nested(count, lambda piece, n: call(F, piece), call(X, X))))
            self.clash(piece, [0, 1] + [1] * count, outside)

    def test_outside_kinds_of_thirteen_hundred_kinds(self):
        for side in (lambda kind, n: P(kind, B(n)), lambda kind, n: P(B(n), kind)):
            wide = T(B(0), nested(648, side, N))
            self.assertEqual(size(wide), 1299)
            told = widest({"f": wide}, nested(40, lambda piece, n: pair(piece, call(F, ONE)), call(F, F)))
            self.assertEqual(told[0], "kind")
            self.assertTrue(alike_all_through(widest({"f": wide}, F)[1], numbered(wide)))
        deep = nested(649, lambda kind, n: T(N, kind), B(7))
        piece = nested(649, lambda piece, n: call(piece, ONE), F)
        self.kind(pair(piece, piece), P(B(0), B(1)), {"f": deep})
        self.clash(call(piece, call(call(F, ONE), F)), [1], {"f": deep})


if __name__ == "__main__":
    unittest.main()
