import unittest

from piece_support import (
    ONE, X, Y, all_pieces, call, form, let, nested, pair, paths_of, piece_at, pieces_of, some_pieces,
)
from widekind.pieces import paths

DEEP = 4999
DEEP_WAYS = {
    "form": (0, lambda piece, n: form("x", piece)),
    "pair, first": (0, lambda piece, n: pair(piece, ONE)),
    "pair, second": (1, lambda piece, n: pair(ONE, piece)),
    "call, first": (0, lambda piece, n: call(piece, ONE)),
    "call, second": (1, lambda piece, n: call(X, piece)),
    "let, first": (0, lambda piece, n: let("x", piece, X)),
    "let, second": (1, lambda piece, n: let("x", ONE, piece)),
}


class Paths(unittest.TestCase):
    def test_each_sort_alone(self):
        self.assertEqual(paths(("number", 5)), [()])
        self.assertEqual(paths(("number", -(10 ** 60 - 1))), [()])
        self.assertEqual(paths(X), [()])
        self.assertEqual(paths(pair(ONE, X)), [(), (0,), (1,)])
        self.assertEqual(paths(form("x", X)), [(), (0,)])
        self.assertEqual(paths(call(X, ONE)), [(), (0,), (1,)])
        self.assertEqual(paths(let("x", ONE, X)), [(), (0,), (1,)])

    def test_each_sort_to_the_first_side_and_to_the_second(self):
        for within, steps in ((form("x", X), [(), (0,)]), (let("x", ONE, X), [(), (0,), (1,)]),
                              (call(X, Y), [(), (0,), (1,)]), (pair(X, Y), [(), (0,), (1,)])):
            first = [(0,) + path for path in steps]
            second = [(1,) + path for path in steps]
            self.assertEqual(paths(form("y", within)), [()] + first)
            for around in (pair, call, lambda one, other: let("y", one, other)):
                self.assertEqual(paths(around(within, ONE)), [()] + first + [(1,)])
                self.assertEqual(paths(around(ONE, within)), [(), (0,)] + second)
                self.assertEqual(paths(around(within, within)), [()] + first + second)

    def test_all_sorts_in_one(self):
        piece = let("f", form("x", pair(X, ONE)), call(call(("name", "f"), ONE), form("y", Y)))
        self.assertEqual(paths(piece), [
            (), (0,), (0, 0), (0, 0, 0), (0, 0, 1), (1,), (1, 0), (1, 0, 0), (1, 0, 1), (1, 1), (1, 1, 0),
        ])

    def test_a_list_of_tuples(self):
        told = paths(pair(form("x", X), ONE))
        self.assertIs(type(told), list)
        for path in told:
            self.assertIs(type(path), tuple)
            for step in path:
                self.assertIs(type(step), int)

    def test_small_pieces(self):
        for piece in all_pieces(4, "xy") + some_pieces(1, 200, range(5, 40), "xyz"):
            told = paths(piece)
            self.assertEqual(told, paths_of(piece))
            self.assertEqual([piece_at(piece, path) for path in told], pieces_of(piece))

    def test_five_thousand_pieces_one_in_another(self):
        for label, (step, around) in DEEP_WAYS.items():
            levels = DEEP if label == "form" else DEEP // 2
            told = paths(nested(levels, around, ONE))
            goal = [(step,) * n for n in range(levels + 1)]
            if label in ("pair, second", "call, second", "let, second"):
                # The other piece in each comes ahead of the deep one.
                goal = [()] + [path for n in range(levels) for path in ((1,) * n + (0,), (1,) * (n + 1))]
            elif label != "form":
                goal += [(0,) * n + (1,) for n in reversed(range(levels))]
            self.assertEqual(len(told), len(goal), label)
            self.assertTrue(told == goal, label)

    def test_five_thousand_pieces_side_by_side(self):
        piece = ONE
        for _ in range(12):
            piece = pair(piece, piece)
        told = paths(piece)
        self.assertEqual(len(told), 2 ** 13 - 1)
        self.assertEqual(told, sorted(told))

    def test_no_name_need_be_known(self):
        self.assertEqual(paths(call(X, Y)), [(), (0,), (1,)])


if __name__ == "__main__":
    unittest.main()
