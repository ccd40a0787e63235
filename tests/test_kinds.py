import unittest

from support import B, N, P, T, alike_all_through, counted, first_deep, second_deep, size, small_kinds
from widekind.kinds import numbered

BIG = 10 ** 60 - 1


class Numbered(unittest.TestCase):
    def test_no_blanks(self):
        for kind in (N, P(N, N), T(N, P(T(N, N), N))):
            self.assertEqual(numbered(kind), kind)

    def test_one_blank(self):
        self.assertEqual(numbered(B(0)), B(0))
        self.assertEqual(numbered(B(7)), B(0))
        self.assertEqual(numbered(T(N, B(3))), T(N, B(0)))

    def test_one_blank_more_than_once(self):
        self.assertEqual(numbered(P(B(4), B(4))), P(B(0), B(0)))
        self.assertEqual(numbered(P(B(4), T(B(9), P(B(4), B(9))))), P(B(0), T(B(1), P(B(0), B(1)))))

    def test_another_order_than_their_numbers(self):
        self.assertEqual(numbered(P(B(2), P(B(1), B(0)))), P(B(0), P(B(1), B(2))))
        self.assertEqual(numbered(T(P(B(5), B(1)), T(B(0), B(1)))), T(P(B(0), B(1)), T(B(2), B(1))))
        self.assertEqual(numbered(T(B(1), B(0))), T(B(0), B(1)))

    def test_the_first_part_comes_ahead_however_deep(self):
        self.assertEqual(numbered(P(P(P(B(3), B(2)), B(1)), B(0))), P(P(P(B(0), B(1)), B(2)), B(3)))
        self.assertEqual(numbered(T(T(N, T(B(3), B(2))), T(B(1), B(0)))), T(T(N, T(B(0), B(1))), T(B(2), B(3))))

    def test_numbers_of_sixty_figures(self):
        self.assertEqual(numbered(B(BIG)), B(0))
        kind = P(T(B(BIG), B(BIG - 1)), P(B(BIG), B(0)))
        self.assertEqual(numbered(kind), P(T(B(0), B(1)), P(B(0), B(2))))

    def test_heads_and_numbers_stay(self):
        kind = P(T(N, P(B(1), N)), T(P(N, B(0)), N))
        self.assertEqual(numbered(kind), P(T(N, P(B(0), N)), T(P(N, B(1)), N)))

    def test_counted_already_stays(self):
        for kind in (B(0), P(B(0), B(1)), T(P(B(0), B(1)), P(B(0), T(B(2), B(1)))), N):
            self.assertEqual(numbered(kind), kind)

    def test_all_small_kinds(self):
        for kind in small_kinds([N, B(0), B(1), B(5)], 2):
            told = numbered(kind)
            self.assertEqual(told, counted(kind))
            self.assertEqual(numbered(told), told)

    def test_the_answer_is_of_tuples(self):
        told = numbered(P(B(3), T(N, B(1))))
        self.assertIs(type(told), tuple)
        self.assertIs(type(told[1]), tuple)
        self.assertIs(type(told[2][2]), tuple)


class Edges(unittest.TestCase):
    def test_thirteen_hundred_kinds_one_within_another(self):
        for head in ("pair", "to"):
            for deep in (first_deep, second_deep):
                kind = deep(head, 649, B(BIG), B(4))
                self.assertEqual(size(kind), 1299)
                # To the first side the inmost blank comes first, to the second it comes last.
                goal = deep(head, 649, B(1), B(0)) if deep is first_deep else deep(head, 649, B(0), B(1))
                self.assertTrue(alike_all_through(numbered(kind), goal))

    def test_somewhat_beyond_the_bound(self):
        for deep in (first_deep, second_deep):
            told = numbered(deep("pair", 5000, N, B(8)))
            self.assertTrue(alike_all_through(told, deep("pair", 5000, N, B(0))))

    def test_as_many_blanks_as_there_can_be(self):
        kind, goal = B(0), B(649)
        for n in range(1, 650):
            kind = T(B(n), kind)
            goal = T(B(649 - n), goal)
        self.assertTrue(alike_all_through(numbered(kind), goal))

    def test_what_is_handed_in_is_as_it_was(self):
        kind = P(B(3), T(B(BIG), B(3)))
        numbered(kind)
        self.assertEqual(kind, P(B(3), T(B(BIG), B(3))))


if __name__ == "__main__":
    unittest.main()
