import unittest

from support import (
    B, N, P, T, alike_all_through, alike_by_steps, first_deep, fits_by_putting, second_deep, size, small_kinds,
)
from widekind.alike import fits, made_alike

BIG = 10 ** 60 - 1


class Fits(unittest.TestCase):
    def yes(self, wide, kind):
        self.assertIs(fits(wide, kind), True)

    def no(self, wide, kind):
        self.assertIs(fits(wide, kind), False)

    def test_a_kind_and_itself(self):
        for kind in (N, B(0), B(BIG), P(N, B(1)), T(B(0), B(0)), P(T(B(2), N), B(2))):
            self.yes(kind, kind)

    def test_a_blank_stands_for_anything(self):
        for kind in (N, P(N, N), T(N, B(4)), B(9), B(BIG), P(B(0), B(0))):
            self.yes(B(0), kind)
            self.yes(T(N, B(BIG)), T(N, kind))
            self.yes(P(B(3), N), P(kind, N))

    def test_one_blank_twice(self):
        for kind in (N, P(N, B(7)), T(B(0), N), B(5)):
            self.yes(P(B(0), B(0)), P(kind, kind))
            self.yes(T(B(0), P(N, B(0))), T(kind, P(N, kind)))
        self.no(P(B(0), B(0)), P(N, P(N, N)))
        self.no(P(B(0), B(0)), P(B(0), B(1)))
        self.no(P(B(0), B(0)), P(B(0), N))
        self.no(P(B(0), B(0)), P(N, B(0)))
        self.no(P(B(0), B(0)), P(P(N, N), T(N, N)))
        self.no(P(B(0), B(0)), P(T(N, P(N, B(1))), T(N, P(N, B(2)))))
        self.no(P(B(0), B(0)), P(T(P(B(1), N), N), T(P(B(2), N), N)))
        self.no(T(B(0), P(B(0), B(0))), T(N, P(N, B(0))))

    def test_two_blanks_may_stand_for_one_kind(self):
        self.yes(P(B(0), B(1)), P(N, N))
        self.yes(P(B(0), B(1)), P(B(3), B(3)))

    def test_narrower_than_the_other(self):
        self.no(P(N, N), P(N, B(0)))
        self.no(T(B(0), B(0)), T(B(0), B(1)))
        self.no(P(B(0), P(B(1), B(2))), P(B(0), B(1)))

    def test_a_blank_where_wide_has_none(self):
        self.no(N, B(0))
        self.no(P(N, N), B(0))
        self.no(T(B(0), B(1)), B(0))
        self.no(T(B(0), B(1)), B(7))
        self.no(P(B(0), N), P(N, B(0)))

    def test_heads_that_differ(self):
        self.no(N, P(N, N))
        self.no(P(N, N), N)
        self.no(P(N, N), T(N, N))
        self.no(T(B(0), B(1)), P(N, N))
        self.no(P(B(0), T(N, N)), P(N, P(N, N)))
        self.no(P(P(N, N), B(0)), P(N, N))

    def test_what_is_put_in_has_blanks_of_wide(self):
        self.yes(P(B(0), B(1)), P(B(1), B(0)))
        self.yes(B(0), P(B(0), N))
        self.yes(P(B(0), B(1)), P(P(B(1), B(0)), B(0)))
        self.yes(P(B(0), P(B(1), B(0))), P(B(1), P(N, B(1))))
        self.no(P(B(0), P(B(1), B(0))), P(B(1), P(N, N)))
        self.no(P(B(0), P(B(1), B(0))), P(B(1), P(B(0), B(0))))

    def test_all_small_kinds(self):
        kinds = small_kinds([N, B(0), B(1)], 1) + [
            P(B(0), P(B(0), B(1))), P(P(B(0), B(1)), B(0)), T(P(B(1), N), P(B(1), N)), T(T(B(0), B(0)), T(B(1), N)),
        ]
        wides = small_kinds([N, B(0), B(1)], 2)
        told = {True: 0, False: 0}
        for wide in wides:
            for kind in kinds:
                for one, other in ((wide, kind), (kind, wide)):
                    answer = fits(one, other)
                    self.assertIs(answer, fits_by_putting(one, other), (one, other))
                    told[answer] += 1
        self.assertGreater(min(told.values()), 1000)


class MadeAlike(unittest.TestCase):
    def both_ways(self, one, other, goal):
        self.assertEqual(made_alike(one, other), goal)
        self.assertEqual(made_alike(other, one), goal)

    def none(self, one, other):
        self.assertIsNone(made_alike(one, other))
        self.assertIsNone(made_alike(other, one))

    def test_both_the_same(self):
        self.both_ways(N, N, N)
        self.both_ways(B(6), B(6), B(0))
        self.both_ways(P(B(6), T(B(2), N)), P(B(6), T(B(2), N)), P(B(0), T(B(1), N)))

    def test_a_blank_and_any_kind(self):
        self.both_ways(B(0), N, N)
        self.both_ways(B(0), B(8), B(0))
        self.both_ways(B(2), P(N, B(1)), P(N, B(0)))
        self.both_ways(B(BIG), T(B(5), P(B(4), B(5))), T(B(0), P(B(1), B(0))))

    def test_a_blank_and_a_kind_in_which_it_lies(self):
        self.none(B(0), P(B(0), N))
        self.none(B(0), P(N, B(0)))
        self.none(B(1), T(B(1), B(0)))
        self.none(B(1), T(N, P(N, T(B(1), N))))
        self.none(P(N, B(BIG)), P(N, T(N, B(BIG))))
        self.both_ways(B(3), B(3), B(0))

    def test_what_cannot_be_one(self):
        self.none(N, P(N, N))
        self.none(N, T(N, N))
        self.none(P(N, N), T(N, N))
        self.none(P(B(0), B(1)), T(B(0), B(1)))
        self.none(P(B(0), P(N, N)), P(N, P(N, T(N, N))))
        self.none(P(P(N, N), B(0)), P(N, B(0)))
        self.none(P(B(0), B(0)), P(N, P(N, N)))
        self.none(P(B(0), B(0)), P(P(N, B(1)), T(N, B(1))))

    def test_blanks_that_come_to_be_one_by_way_of_others(self):
        self.both_ways(P(B(0), P(B(1), B(2))), P(B(1), P(B(2), N)), P(N, P(N, N)))
        self.both_ways(P(B(0), P(B(1), B(2))), P(B(1), P(B(2), B(3))), P(B(0), P(B(0), B(0))))
        self.both_ways(P(B(0), B(0)), P(P(B(1), N), P(T(N, N), B(2))), P(P(T(N, N), N), P(T(N, N), N)))
        self.both_ways(P(B(0), P(B(0), B(1))), P(B(1), P(P(B(2), B(3)), P(B(4), B(2)))),
                       P(P(B(0), B(0)), P(P(B(0), B(0)), P(B(0), B(0)))))
        self.none(P(B(0), P(B(1), B(2))), P(B(1), P(B(2), P(B(0), N))))
        self.none(P(B(0), P(B(1), P(B(0), B(1)))), P(B(2), P(B(2), P(N, P(N, N)))))

    def test_a_blank_in_itself_by_way_of_another(self):
        self.none(P(B(0), B(1)), P(P(N, B(1)), P(B(0), N)))
        self.none(P(B(0), B(1)), P(T(B(1), N), B(0)))
        self.none(P(B(0), P(B(1), B(2))), P(T(B(1), N), P(T(N, B(2)), P(B(0), N))))
        self.none(T(P(B(0), B(1)), B(0)), T(P(P(B(2), N), B(2)), B(1)))

    def test_two_kinds_that_would_both_lie_in_themselves(self):
        # Here each of the two blanks lies in itself in the same way, so no number ever meets a pair.
        self.none(P(B(0), P(B(1), B(0))), P(P(B(0), N), P(P(B(1), N), B(1))))

    def test_the_same_blank_in_both(self):
        self.both_ways(P(B(0), B(1)), P(N, B(0)), P(N, N))
        self.both_ways(P(B(0), B(1)), P(B(1), B(0)), P(B(0), B(0)))
        self.both_ways(T(B(0), P(B(1), B(1))), T(P(N, B(1)), B(2)), T(P(N, B(0)), P(B(0), B(0))))
        self.none(P(B(0), N), P(T(N, B(0)), N))

    def test_counted_from_nought(self):
        self.both_ways(P(B(5), P(B(3), B(BIG))), B(1), P(B(0), P(B(1), B(2))))
        self.both_ways(P(B(5), B(3)), P(B(9), P(B(4), B(9))), P(B(0), P(B(1), B(0))))
        self.both_ways(T(B(9), B(8)), T(P(B(7), B(6)), B(6)), T(P(B(0), B(1)), B(1)))
        self.both_ways(P(B(2), P(B(1), B(0))), P(B(5), P(B(4), B(3))), P(B(0), P(B(1), B(2))))

    def test_all_small_kinds(self):
        kinds = small_kinds([N, B(0), B(1)], 1)
        others = kinds + [
            (head, one, other) for head in ("pair", "to") for one in kinds for other in (N, B(0), B(2), P(B(2), B(0)))
        ] + [
            (head, other, one) for head in ("pair", "to") for one in kinds for other in (N, B(1), T(B(1), B(2)))
        ]
        met = 0
        for one in others:
            for other in others:
                told = made_alike(one, other)
                self.assertEqual(told, alike_by_steps(one, other), (one, other))
                if told is not None:
                    met += 1
                    self.assertTrue(fits(one, told))
                    self.assertTrue(fits(other, told))
        self.assertGreater(met, 1000)

    def test_the_answer_is_of_tuples(self):
        told = made_alike(P(B(3), T(N, B(1))), B(7))
        self.assertIs(type(told), tuple)
        self.assertIs(type(told[1]), tuple)
        self.assertIs(type(told[2][1]), tuple)


class Edges(unittest.TestCase):
    DEEP = (first_deep, second_deep)
    LEVELS = (649, 5000)

    def test_deep_kinds_that_fit(self):
        for deep in self.DEEP:
            for levels in self.LEVELS:
                for head in ("pair", "to"):
                    wide = deep(head, levels, B(1), B(BIG))
                    kind = deep(head, levels, P(N, B(3)), B(0))
                    self.assertIs(fits(wide, kind), True)
                    self.assertIs(fits(kind, kind), True)
                    self.assertIs(fits(wide, deep(head, levels - 1, P(N, B(3)), B(0))), False)
                    self.assertIs(fits(kind, wide), False)

    def test_a_deep_kind_put_in_twice(self):
        for deep in self.DEEP:
            for levels in self.LEVELS:
                kind = deep("to", levels // 2, N, B(1))
                self.assertIs(fits(P(B(0), B(0)), P(kind, deep("to", levels // 2, N, B(1)))), True)
                self.assertIs(fits(P(B(0), B(0)), P(kind, deep("to", levels // 2, N, B(0)))), False)

    def test_deep_kinds_made_alike(self):
        for deep in self.DEEP:
            for levels in self.LEVELS:
                for head in ("pair", "to"):
                    one = deep(head, levels, B(1), N)
                    other = deep(head, levels, T(N, B(2)), B(BIG))
                    goal = deep(head, levels, T(N, B(0)), N)
                    self.assertTrue(alike_all_through(made_alike(one, other), goal))
                    self.assertTrue(alike_all_through(made_alike(other, one), goal))
                    self.assertTrue(alike_all_through(made_alike(B(5), one), deep(head, levels, B(0), N)))
                    self.assertIsNone(made_alike(one, deep(head, levels, N, P(N, N))))
                    self.assertIsNone(made_alike(B(1), one))

    def test_a_chain_of_blanks_that_is_deeper_than_both(self):
        # Blank n is to be the pair of blank n + 1 and a number, for each n; the last one is free.
        for last, goal in ((B(325), first_deep("pair", 325, N, B(0))), (B(0), None)):
            one, other = N, N
            for n in range(325):
                one = P(B(n), one)
                other = P(P(B(n + 1) if n < 324 else last, N), other)
            told = made_alike(one, other)
            if goal is None:
                self.assertIsNone(told)
                continue
            rest = told
            for _ in range(324):
                rest = rest[2]
            # The walk ends at the greatest of the kinds, that of blank nought.
            self.assertTrue(alike_all_through(rest[1], goal))
            self.assertTrue(alike_all_through(rest[2], N))

    def test_an_answer_far_greater_than_both(self):
        # Blank n is to be the pair of twice blank n + 1: written out, the first has two to the power of 260 blanks.
        one, other = N, N
        for n in reversed(range(260)):
            one = P(B(n), one)
            other = P(P(B(n + 1), B(n + 1)), other)
        self.assertLessEqual(max(size(one), size(other)), 1300)
        for told in (made_alike(one, other), made_alike(other, one)):
            self.assertEqual(size(told[1]), 2 ** 261 - 1)
            for step in (1, 2):
                rest = told[1]
                for _ in range(260):
                    self.assertEqual((rest[0], len(rest)), ("pair", 3))
                    rest = rest[step]
                self.assertEqual(rest, B(0))

    def test_two_great_kinds_that_must_be_one(self):
        # Both ends of the row ask for the same of two lots of blanks, each of which stands for a great kind.
        one, other = B(0), B(1000)
        for n in reversed(range(90)):
            one = P(B(n), P(B(1000 + n), one))
            other = P(P(B(n + 1), B(n + 1)), P(P(B(1001 + n), B(1001 + n)), other))
        told = made_alike(one, other)
        self.assertEqual(size(told[1]), 2 ** 91 - 1)
        self.assertIsNone(made_alike(P(one, B(90)), P(other, P(B(1090), N))))
        self.assertIsNotNone(made_alike(P(one, B(90)), P(other, P(N, N))))

    def test_many_blanks_that_come_to_be_one(self):
        one, other = N, N
        for n in range(640):
            one = P(B(n), one)
            other = P(B(n + 1), other)
        goal = second_deep("pair", 640, B(0), N)
        self.assertTrue(alike_all_through(made_alike(one, other), goal))
        self.assertTrue(alike_all_through(made_alike(other, one), goal))

    def test_what_is_handed_in_is_as_it_was(self):
        def kinds():
            return P(B(3), T(B(BIG), B(3))), P(P(N, B(1)), T(N, B(0)))
        one, other = kinds()
        made_alike(one, other)
        fits(one, other)
        fits(other, one)
        self.assertEqual((one, other), kinds())


if __name__ == "__main__":
    unittest.main()
