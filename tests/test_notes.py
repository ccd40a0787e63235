import itertools
import random
import unittest

from support import B, N, P, T, alike_all_through, first_deep, second_deep, size, small_kinds
from widekind.errors import NoKind, WideError
from widekind.notes import read, shown

BIG = 10 ** 60 - 1
SIGNS = [chr(n) for n in range(ord(" "), ord("~") + 1) if chr(n) != "%"]


class Lines(unittest.TestCase):
    PAIRS = [
        (N, "n"), (B(0), "?0"), (B(5), "?5"), (B(10), "?10"), (B(100), "?100"), (B(BIG), "?" + "9" * 60),
        (B(10 ** 59), "?1" + "0" * 59), (P(N, N), "(n,n)"), (T(N, N), "(n>n)"), (P(B(0), B(10)), "(?0,?10)"),
        (T(B(12), N), "(?12>n)"), (P(P(N, B(0)), N), "((n,?0),n)"), (P(N, P(B(0), N)), "(n,(?0,n))"),
        (T(T(N, N), N), "((n>n)>n)"), (T(N, T(N, N)), "(n>(n>n))"), (P(T(N, B(1)), T(B(1), N)), "((n>?1),(?1>n))"),
        (T(P(B(2), N), P(N, B(2))), "((?2,n)>(n,?2))"),
    ]

    def test_by_hand(self):
        for kind, line in self.PAIRS:
            self.assertEqual(shown(kind), line)
            self.assertEqual(read(line), kind)
            self.assertIs(type(shown(kind)), str)
            self.assertIs(type(read(line)), tuple)

    def test_there_and_back(self):
        for kind in small_kinds([N, B(0), B(10), B(BIG)], 2):
            self.assertEqual(read(shown(kind)), kind)

    def test_each_kind_has_a_line_of_its_own(self):
        kinds = small_kinds([N, B(0), B(1), B(11)], 2)
        self.assertEqual(len({shown(kind) for kind in kinds}), len(set(kinds)))

    def test_thirteen_hundred_kinds(self):
        for head, sign in (("pair", ","), ("to", ">")):
            for levels in (649, 5000):
                kind = first_deep(head, levels, N, B(BIG))
                line = "(" * levels + f"?{BIG}" + (sign + "n)") * levels
                self.assertEqual(shown(kind), line)
                self.assertTrue(alike_all_through(read(line), kind))
                kind = second_deep(head, levels, B(10), N)
                line = ("(?10" + sign) * levels + "n" + ")" * levels
                self.assertEqual(shown(kind), line)
                self.assertTrue(alike_all_through(read(line), kind))
        self.assertEqual(size(first_deep("pair", 649, N, N)), 1299)


class Refused(unittest.TestCase):
    def refused(self, line):
        with self.assertRaises(NoKind, msg=line) as caught:
            read(line)
        self.assertIsInstance(caught.exception, WideError)
        self.assertIsInstance(caught.exception, ValueError)

    def test_those_of_point_13(self):
        for line in ("(n)", "(n,n", "n>n", "?", "?01", "(n, n)", ""):
            self.refused(line)

    def test_others_by_hand(self):
        for line in (
            " ", "n ", " n", " (n,n)", "(n,n) ", "( n,n)", "(n ,n)", "(n,n )", "?0 ", " ?0", "? 0", "?0 1", "nn", "n n",
            "n,n", "(n,n)n", "n(n,n)", "(n,n)(n,n)", "(n,n),(n,n)", "?0?1", "n?0", "?0n", "(n,n))", "((n,n)", ")", "(",
            "()", "(,)", "(,n)", "(n,)", "(>n)", "(n>)", "(n,n,n)", "(n>n>n)", "(n,n>n)", "(n>n,n)", "(n,>n)", "(n-n)",
            "(n->n)", "(n;n)", "[n,n]", "{n>n}", "(n<n)", "N", "m", "0", "7", "10", "?-1", "?+1", "?1_0", "?1.0",
            "?1e3", "?0x1", "?a", "?n", "??", "??1", "?00", "?000", "?01", "?0" + "1" * 59, "?007", "?10?", "?1,?2", "(?,n)",
            "(n,?)", "(?01,n)", "(n>?00)", "((n),n)", "(n,(n))", "(n,(n,n)", "(n,n)>n", ",", ">", "n,", ",n", "~", "!",
            "number", "('number',)", "blank", "None", "((", "))", ")(", ")n(", "(n", "n)", "(n,n]", "(n,n}", "?O", "?l",
        ):
            self.refused(line)

    def test_one_sign_left_out_put_in_or_changed(self):
        for kind in (N, B(0), B(10), P(N, N), T(B(10), P(N, B(0))), P(T(P(N, B(3)), N), B(21)), T(N, T(N, B(BIG)))):
            line = shown(kind)
            for changed in self.changed(line):
                try:
                    told = read(changed)
                except NoKind:
                    continue
                # What is read is another kind, which is written just so.
                self.assertNotEqual(told, kind)
                self.assertEqual(shown(told), changed)

    def test_a_bracket_a_sign_between_or_a_blank_cannot_be_left_out_or_put_in(self):
        for line in ("(n,n)", "(?10>(n,?0))", "((n,?3)>(n>n))"):
            for place, sign in enumerate(line):
                if sign in "(),>?":
                    self.refused(line[:place] + line[place + 1:])
            for place in range(len(line) + 1):
                for sign in SIGNS:
                    if sign not in "0123456789":
                        self.refused(line[:place] + sign + line[place:])

    def changed(self, line):
        for place in range(len(line) + 1):
            if place < len(line):
                yield line[:place] + line[place + 1:]
            for sign in SIGNS:
                yield line[:place] + sign + line[place:]
                if place < len(line) and sign != line[place]:
                    yield line[:place] + sign + line[place + 1:]

    def test_all_short_texts(self):
        # All lines that are short enough, from all kinds that could have them.
        lines = {shown(kind): kind for kind in small_kinds([N] + [B(n) for n in range(200)], 0)}
        lines.update({shown(kind): kind for kind in small_kinds([N] + [B(n) for n in range(20)], 1)})
        for signs, length in (("n?(),>01 ", 5), ("n?(,>)0", 6), ("n(,)", 9)):
            for count in range(length + 1):
                for line in map("".join, itertools.product(signs, repeat=count)):
                    if line in lines:
                        self.assertEqual(read(line), lines[line])
                    else:
                        try:
                            told = read(line)
                        except NoKind:
                            continue
                        self.assertEqual(shown(told), line)
        self.assertEqual(read("((n,n),n)"), P(P(N, N), N))

    def test_each_sign_alone(self):
        for sign in SIGNS:
            if sign != "n":
                self.refused(sign)
            if not sign.isdigit():
                self.refused("?" + sign)
            self.refused("n" + sign)
            self.refused("(n" + sign)
            self.refused(sign + ")")

    def test_texts_by_chance(self):
        chance = random.Random(6)
        for _ in range(3000):
            line = "".join(chance.choice("nn??(((),,>>))0123") for _ in range(chance.randrange(1, 14)))
            try:
                told = read(line)
            except NoKind:
                continue
            self.assertEqual(shown(told), line)

    def test_long_texts(self):
        for line in ("(" * 5000, ")" * 5000, "n" * 5000, "(n," * 5000, "(n,n)" * 5000, "?" * 5000, "(" * 650 + "n"):
            self.refused(line)
        line = shown(first_deep("pair", 649, N, N))
        self.refused(line[:-1])
        self.refused(line + ")")
        self.refused(line[1:])


if __name__ == "__main__":
    unittest.main()
