"""What was handed in is as it was, behind each function, also where it refuses."""

import copy
import unittest

from piece_support import F, ONE, V, X, call, form, let, pair
from support import B, N, P, T
from widekind.alike import fits, made_alike
from widekind.errors import NoKind, NoName
from widekind.finding import found_kinds, widest
from widekind.kinds import numbered
from widekind.notes import read, shown
from widekind.pieces import paths
from widekind.standing import holds

KIND = P(B(7), T(B(3), P(B(7), N)))
PIECES = {
    "stands": let("v", form("x", X), pair(call(V, ONE), call(F, V))),
    "clashes": let("v", form("x", call(X, X)), pair(call(V, ONE), call(F, V))),
    "lacks a name": pair(call(ONE, ONE), let("v", ("name", "q"), V)),
}


class Unchanged(unittest.TestCase):
    def asked(self, ask, *given):
        """What is told, and that it is told again, with all that was handed in as it was."""
        before = copy.deepcopy(given)
        answers = []
        for _ in range(2):
            try:
                answers.append(ask(*given))
            except (NoName, NoKind) as refusal:
                answers.append(type(refusal))
            self.assertEqual(given, before)
        self.assertEqual(answers[0], answers[1])
        return answers[0]

    def outside(self):
        return {"f": T(B(7), P(B(0), B(7))), "g": KIND, "a": B(0), "unused": N}

    def test_kinds(self):
        self.asked(numbered, KIND)
        self.asked(made_alike, KIND, P(N, B(0)))
        self.asked(made_alike, KIND, N)
        self.asked(fits, KIND, KIND)
        self.asked(fits, KIND, N)

    def test_lines(self):
        self.asked(shown, KIND)
        self.asked(read, "(n,?7)")
        self.assertIs(self.asked(read, "(n,?07)"), NoKind)

    def test_pieces(self):
        for piece in PIECES.values():
            self.asked(paths, piece)

    def test_found_kinds_and_widest(self):
        for ask in (found_kinds, widest):
            outside = self.outside()
            self.assertIn(self.asked(ask, outside, PIECES["stands"])[0], ("kinds", "kind"))
            self.assertEqual(self.asked(ask, outside, PIECES["clashes"]), ("clash", [0, 0]))
            self.assertIs(self.asked(ask, outside, PIECES["lacks a name"]), NoName)
            self.assertEqual(list(outside), ["f", "g", "a", "unused"])

    def test_holds(self):
        outside = self.outside()
        kinds = found_kinds(outside, PIECES["stands"])[1]
        self.assertIs(self.asked(holds, outside, PIECES["stands"], kinds), True)
        kinds[4] = P(N, N)
        self.assertIs(self.asked(holds, outside, PIECES["stands"], kinds), False)
        self.assertIs(self.asked(holds, outside, PIECES["clashes"], [N] * 12), False)
        self.assertIs(self.asked(holds, outside, PIECES["lacks a name"], [N] * 7), NoName)
        self.assertEqual(list(outside), ["f", "g", "a", "unused"])

    def test_what_was_told_is_ones_own(self):
        outside = self.outside()
        told = found_kinds(outside, PIECES["stands"])
        kept = copy.deepcopy(told)
        told[1].clear()
        self.assertEqual(found_kinds(outside, PIECES["stands"]), kept)
        clash = widest(outside, PIECES["clashes"])
        clash[1].append(5)
        self.assertEqual(widest(outside, PIECES["clashes"]), ("clash", [0, 0]))
        steps = paths(PIECES["stands"])
        steps.pop()
        self.assertEqual(len(paths(PIECES["stands"])), len(steps) + 1)


if __name__ == "__main__":
    unittest.main()
