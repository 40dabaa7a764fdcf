"""Point 96: texts of deeds, journals, and deeds that are not needed."""

import unittest

from libraries import INC, UNARY, fun, random_book, random_sorts
from meanings import SORTS, random_function
from playsalike.benches import Bench
from playsalike.benchlogs import deed_line, deed_of_line, journal, taken_up, trimmed
from playsalike.books import Book
from playsalike.errors import BadBench, BadBook, BadDeed, BadLine, NotLet, TooMany
from playsalike.pieces import Function, Piece, made_function
from playsalike.piecetexts import function_text
from samples import BOX, NUM, ODD_VALUES, SKIP, name, number, some
from workbenches import CALLS, ENDS, FIRST, NEVER, ONE, SAME, ZERO, Model, bench_of, random_deed

X = name("x")
LINES = [
    (("put", "a", ONE), "put a size 2 | takes | does 1"),
    (("put", "inc", INC), "put inc size 2 | takes p num | does p + 1"),
    (("put", "put", fun(X, {"x": NUM})), "put put size 2 | name x num | takes | does x"),
    (("put", "v", Function(2, {"v": BOX}, (), name("v"))), "put v size 2 | name v box | takes | does v"),
    (("drop", "a"), "drop a"), (("drop", "drop"), "drop drop"), (("ask", SAME), "ask same a b"),
         (("ask", ("less", "b", "b")), "ask less b b"),
    (("ask", ("holds", "zz")), "ask holds zz"), (("ask", ENDS), "ask ends a"), (("unask", 0), "unask 0"),
         (("unask", 10 ** 9), "unask 1000000000"),
    (("back", "a", 12), "back a 12"), (("back", "back", 0), "back back 0"),
]


class DeedLines(unittest.TestCase):
    def test_there_and_back(self):
        for deed, line in LINES:
            self.assertEqual(deed_line(deed=deed), line)
            self.assertEqual(deed_of_line(text=line), deed)
        rng = some(960)
        for _ in range(60):
            function = random_function(rng, 2, rng.choice(SORTS), {"x": NUM, "v": BOX, "if": UNARY})
            line = deed_line(("put", "word", function))
            self.assertEqual(line, "put word " + function_text(function))
            self.assertEqual(deed_of_line(line), ("put", "word", function))

    def test_no_deeds(self):
        for thing in ODD_VALUES + [("undo",), ("drop", "A"), ["drop", "a"], ("unask", -1), SAME, ("put", "a", None)]:
            with self.assertRaises(BadDeed):
                deed_line(thing)

    def test_lines_of_no_deed(self):
        for text in ("", " ", "drop", "drop ", "drop a ", " drop a", "drop  a", "drop A", "drop a b", "drop abcdefghi",
                     "Drop a", "undo", "redo", "entries", "put a", "put a ",
                     "put a size 2 | takes | does 2", "put a size 2 | does 1", "put a size 2|takes|does 1",
                     "put a size 2 | takes | does (1)", "put a size 2 | takes | does 1 ",
                     "put  a size 2 | takes | does 1", "put A size 2 | takes | does 1",
                     "put a  size 2 | takes | does 1", "put size 2 | takes | does 1", "ask", "ask same a",
                     "ask same a b c",
                     "ask more a b", "ask holds", "ask same a  b", "ask ends a b", "ask ends 0", "unask", "unask a",
                     "unask -1", "unask 01", "unask 00", "unask 1000000001", "unask +1", "unask 1 ",
                     "unask \u0661", "unask \u00b2", "unask 99999999999999999999", "unask " + "9" * 5000, "unask 1_0",
                     "back a", "back a b", "back 0 a", "back a 01", "back a 0 0", "back A 0",
                     "put a size 2 | takes | does " + "not " * 12 + "1", "ask same a b\n", "drop\ta"):
            with self.assertRaises(BadLine) as caught:
                deed_of_line(text)
            self.assertIsNone(caught.exception.number)
        for thing in [thing for thing in ODD_VALUES if not isinstance(thing, str)] + [("drop", "a"), b"drop a"]:
            with self.assertRaises(BadLine) as caught:
                deed_of_line(thing)
            self.assertIsNone(caught.exception.number)

    def test_each_line_cut_or_bent(self):
        for deed, line in LINES:
            for end in range(len(line)):
                for text in (line[:end], line[:end] + line[end + 1:], line[:end] + " " + line[end:], line + line[end]):
                    try:
                        found = deed_of_line(text)
                    except BadLine:
                        continue
                    self.assertEqual(deed_line(found), text)
                    self.assertFalse(found == deed)

    def test_functions_that_are_too_great(self):
        term = X
        for _ in range(5):
            term = ("sum", term, term)
        deed = ("put", "a", made_function(2, {"x": NUM}, (), term, NUM))
        with self.assertRaises(TooMany) as caught:
            deed_line(deed)
        self.assertEqual(caught.exception.most, 60)


class Journals(unittest.TestCase):
    def test_by_hand(self):
        bench = bench_of(("put", "a", ONE), ("ask", SAME), ("drop", "inc"))
        bench.undo()
        self.assertEqual(journal(bench=bench), ["put a size 2 | takes | does 1", "ask same a b"])
        self.assertEqual(journal(Bench(FIRST)), [])
        made = taken_up(book=FIRST, lines=journal(bench))
        self.assertEqual((made.book, made.questions(), made.undone()), (bench.book, bench.questions(), []))
        self.assertEqual(made, bench_of(("put", "a", ONE), ("ask", SAME)))
        self.assertEqual(taken_up(FIRST, ()), Bench(FIRST))

    def test_by_chance(self):
        rng = some(961)
        for _ in range(25):
            sorts = random_sorts(rng, "abc")
            first = random_book(rng, words="abc", sorts=sorts)
            bench, model = Bench(first), Model(first)
            for _ in range(12):
                deed = random_deed(rng, model, sorts)
                if model.why(deed) is None:
                    bench.do(deed)
                    model.deeds.append(deed)
            lines = journal(bench)
            self.assertEqual(taken_up(first, lines), bench)
            self.assertEqual([deed_of_line(line) for line in lines], bench.deeds())
            for end in range(len(lines)):
                self.assertEqual(taken_up(first, lines[:end]).deeds(), bench.deeds()[:end])
                bent = lines[:end] + [lines[end] + " "] + lines[end + 1:]
                self.wrong(first, bent, end)
            self.check_trimmed(bench)

    def wrong(self, book, lines, number_of):
        with self.assertRaises(BadLine) as caught:
            taken_up(book, lines)
        self.assertEqual(caught.exception.number, number_of)

    def check_trimmed(self, bench):
        """Each deed that is left is needed, and none that was left out."""
        left = trimmed(bench)
        self.assertEqual(left, self.by_hand(bench))
        self.assertTrue(leads(bench.first, left, bench))
        for at in range(len(left)):
            self.assertFalse(leads(bench.first, left[:at] + left[at + 1:], bench))

    def by_hand(self, bench):
        left, before = bench.deeds(), None
        while before != left:
            before = left
            for at in range(len(left) - 1, -1, -1):
                fewer = left[:at] + left[at + 1:]
                if leads(bench.first, fewer, bench):
                    left = fewer
        return left

    def test_lines_that_cannot_be_done(self):
        lines = ["put a size 2 | takes | does 1", "ask same a b", "unask 0"]
        self.wrong(FIRST, lines + ["unask 0"], 3)
        self.wrong(FIRST, lines + ["undo"], 3)
        self.wrong(FIRST, ["drop z"] + lines, 0)
        self.wrong(FIRST, ["put a size 3 | takes | does 1"] + lines, 0)
        self.wrong(FIRST, lines[:1] + ["back a 2"] + lines, 1)
        self.wrong(FIRST, lines + ["put b size 2 | name b num | takes | does b", None], 3)
        for thing in ODD_VALUES:
            self.wrong(FIRST, lines + [thing] + lines, 3)

    def test_errors(self):
        for thing in ODD_VALUES + [Piece(2, {}, SKIP)]:
            with self.assertRaises(BadBook) as caught:
                taken_up(thing, None)
            self.assertIsNone(caught.exception.part)
        for thing in (None, "drop a", 0, {}, {"drop a": 1}, b"", range(0)):
            with self.assertRaises(BadLine) as caught:
                taken_up(FIRST, thing)
            self.assertIsNone(caught.exception.number)
        for thing in ODD_VALUES + [FIRST]:
            for call in (journal, trimmed):
                with self.assertRaises(BadBench):
                    call(thing)


def leads(first, deeds, bench):
    """Whether all the deeds can be done, and lead to the present book and questions."""
    other = Bench(first)
    try:
        for deed in deeds:
            other.do(deed)
    except NotLet:
        return False
    return other.book == bench.book and [told for _, told in other.questions()] == [told for _, told in bench.questions()]


class Trimmed(unittest.TestCase):
    def test_by_hand(self):
        put, again = ("put", "a", ONE), ("put", "a", NEVER)
        for deeds, left in (
                ([], []),
                ([put], [put]),
                ([put, again], [again]),
                ([again, put], [put]),
                ([put, ("put", "a", CALLS)], []),
                ([put, ("back", "a", 0)], []),
                ([put, again, ("back", "a", 1)], [put]),
                ([("drop", "b"), ("put", "b", ZERO)], []),
                ([("put", "z", ONE), ("drop", "z")], [("put", "z", ONE), ("drop", "z")]),
                ([("put", "z", ONE), ("drop", "z"), put, again], [("put", "z", ONE), ("drop", "z"), again]),
                ([("ask", SAME)], [("ask", SAME)]),
                ([("ask", SAME), ("ask", SAME)], [("ask", SAME)] * 2),
                ([("ask", SAME), ("unask", 0)], [("ask", SAME), ("unask", 0)]),
                ([put, ("ask", ENDS), again], [("ask", ENDS), again]),
                ([("put", "b", ONE), ("put", "b", ONE)], [("put", "b", ONE)])):
            self.assertEqual(trimmed(bench=bench_of(*deeds)), left, deeds)

    def test_what_was_taken_back_does_not_count(self):
        bench = bench_of(("put", "a", ONE), ("put", "b", ONE))
        bench.undo()
        self.assertEqual(trimmed(bench), [("put", "a", ONE)])
        self.assertEqual((bench.deeds(), bench.undone()), ([("put", "a", ONE)], [("put", "b", ONE)]))

    def test_too_many(self):
        bench = bench_of(*[("put", "a", ONE), ("put", "a", ZERO)] * 32)
        self.assertEqual(trimmed(bench), [("put", "a", ZERO)])
        bench.do(("put", "a", ONE))
        with self.assertRaises(TooMany) as caught:
            trimmed(bench)
        self.assertEqual(caught.exception.most, 64)
        bench.undo()
        self.assertEqual(len(trimmed(bench)), 1)
        self.assertEqual(len(trimmed(bench_of(*[("ask", SAME)] * 64))), 64)
        with self.assertRaises(TooMany):
            trimmed(bench_of(*[("ask", SAME)] * 65))
        self.assertEqual(number(1), ONE.term)
        self.assertEqual(Book(2, ()).entries, ())


if __name__ == "__main__":
    unittest.main()
