"""Point 97: the desk, line by line."""

import unittest

from libraries import INC, UNARY, fun, random_book, random_sorts
from playsalike.benches import Bench
from playsalike.benchlogs import deed_line, deed_of_line, journal
from playsalike.books import Book, functions_of, open_names
from playsalike.culprits import culprits
from playsalike.desk import Desk
from playsalike.edits import compared
from playsalike.errors import BadBook, NotLet, TooMany
from samples import NUM, ODD_VALUES, SKIP, name, number, some
from workbenches import FIRST, Model, bench_of, random_deed

X = name("x")
OPEN = Book(2, (("a", fun(("sum", X, number(0)), {"x": NUM})), ("b", fun(X, {"x": NUM}))))


def told(book, *lines):
    """What a new desk answers to each line."""
    desk = Desk(book)
    return [desk.say(line) for line in lines]


class Desks(unittest.TestCase):
    def test_a_new_desk(self):
        desk = Desk(book=FIRST)
        self.assertEqual(desk.bench, Bench(FIRST))
        bench = desk.bench
        self.assertEqual(desk.say(line="entries"), ("a", "b", "inc"))
        self.assertEqual(desk.say("open"), ("nothing",))
        self.assertEqual([desk.say(line) for line in ("questions", "answers", "journal")], [("nothing",)] * 3)
        self.assertEqual(Desk(OPEN).say("open"), ("x",))
        self.assertEqual(Desk(Book(2, ())).say("entries"), ("nothing",))
        desk.say("drop b")
        self.assertTrue(desk.bench is bench)

    def test_deeds(self):
        self.assertEqual(told(FIRST, "put a size 2 | takes | does 1", "put a size 2 | takes | does never num",
                              "put c size 2 | takes | does 1", "drop c", "put inc size 2 | takes p num | does 1 + p",
                              "put a size 2 | name inc num to num | takes | does inc(1) + inc(inc(1)) + 1", "back a 0",
                              "drop inc", "entries"),
                         [("a unlike",), ("a less",), ("c new",), ("c gone",), ("nothing",), ("a more",), ("nothing",),
                          ("a other", "b other", "inc gone"), ("a", "b")])
        self.assertEqual(told(FIRST, "ask same a b", "ask ends a", "unask 0", "questions"),
                         [("nothing",)] * 3 + [("1 ends a",)])

    def test_undo_and_redo(self):
        desk = Desk(FIRST)
        lines = ["put b size 2 | takes | does never num", "undo", "redo", "undo", "undo", "redo", "redo"]
        self.assertEqual([desk.say(line) for line in lines], [("b less",), ("b more",), ("b less",), ("b more",),
                                                              ("cannot undo",), ("b less",), ("cannot redo",)])
        self.assertEqual(desk.bench.deeds(), [("put", "b", fun(("never", "num")))])

    def test_what_is_refused(self):
        desk = Desk(FIRST)
        self.assertEqual([desk.say(line) for line in ("drop z", "unask 0", "back a 1", "undo", "redo",
                                                      "put a size 3 | takes | does 1",
                                                      "put a size 2 | name a num | takes | does a",
                                                      "put b size 2 | takes q num | does q",
                                                      "put c size 2 | takes a num | does 1", "if drop z",
                                                      "if unask 3")],
                         [("cannot word",), ("cannot number",), ("cannot number",), ("cannot undo",), ("cannot redo",),
                          ("cannot entries",), ("cannot ring",),
                          ("b other",), ("cannot params",), ("cannot word",), ("cannot number",)])
        self.assertEqual(len(desk.bench.deeds()), 1)

    def test_if(self):
        desk = Desk(FIRST)
        for line in ("ask same a b", "ask ends a", "ask holds a", "ask less b a"):
            desk.say(line)
        self.assertEqual(desk.say("if put b size 2 | takes | does 1"), ("b unlike", "0 yes > no", "3 yes > no"))
        self.assertEqual(desk.say("if put a size 2 | takes | does never num"), ("a less", "0 yes > no",
                                                                                "1 num 0 > on 0", "3 yes > no"))
        self.assertEqual(desk.say("if drop a"), ("a gone", "0 yes > lacks", "1 num 0 > lacks", "2 yes > lacks",
                                                 "3 yes > lacks"))
        self.assertEqual(desk.say("if put a size 2 | takes | does claim 0; 0"), ("a unlike", "0 yes > no",
                                                                                 "1 num 0 > broken 0", "2 yes > no",
                                                                                 "3 yes > no"))
        self.assertEqual(desk.say("if put c size 2 | takes | does 1"), ("c new",))
        self.assertEqual(desk.say("if unask 0"), ("nothing",))
        self.assertEqual(desk.say("if put inc size 2 | takes p num | does 1 + p"), ("nothing",))
        self.assertEqual(len(desk.bench.deeds()), 4)

    def test_questions_and_answers(self):
        desk = Desk(FIRST)
        for line in ("ask same a b", "ask ends a", "ask holds zz", "ask less a b", "ask ends inc"):
            self.assertEqual(desk.say(line), ("nothing",))
        self.assertEqual(desk.say("questions"), ("0 same a b", "1 ends a", "2 holds zz", "3 less a b", "4 ends inc"))
        self.assertEqual(desk.say("answers"), ("0 yes", "1 num 0", "2 lacks", "3 yes", "4 other"))
        desk.say("unask 1")
        desk.say("put b size 2 | takes | does 1")
        self.assertEqual(desk.say("answers"), ("0 no", "2 lacks", "3 no", "4 other"))
        self.assertEqual(desk.say("journal"), ("ask same a b", "ask ends a", "ask holds zz", "ask less a b",
                                               "ask ends inc", "unask 1", "put b size 2 | takes | does 1"))

    def test_why(self):
        desk = Desk(FIRST)
        self.assertEqual(desk.say("why a"), ("nothing",))
        desk.say("put inc size 2 | takes p num | does p")
        self.assertEqual([desk.say("why " + word) for word in ("a", "b", "inc")], [("inc",), ("nothing",), ("inc",)])
        desk.say("put b size 2 | takes | does 1")
        self.assertEqual([desk.say("why " + word) for word in ("a", "b", "inc")], [("inc",), ("b",), ("inc",)])
        self.assertEqual([desk.say(line) for line in ("why z", "why ", "why", "why a b", "why A", "why  a")],
                         [("what",)] * 6)
        desk.say("put c size 2 | takes | does 1")
        self.assertEqual([desk.say("why " + word) for word in ("a", "c", "z")], [("other",), ("what",), ("what",)])
        desk.say("drop c")
        desk.say("drop b")
        self.assertEqual([desk.say("why " + word) for word in ("a", "b")], [("other",), ("what",)])

    def test_lines_of_no_form(self):
        desk = Desk(FIRST)
        for line in ODD_VALUES + ["undo ", " undo", "entries ", "Entries", "drop", "if", "if ", "if undo", "if entries",
                                  "if if drop a", "put a size 2 | takes | does 2", "drop  a", "ask", "say", "what",
                                  "nothing", "undo undo", "drop a\n", "if drop a ", b"undo", ("undo",), ["undo"]]:
            self.assertEqual(desk.say(line), ("what",), line)
        self.assertEqual(desk.bench, Bench(FIRST))

    def test_too_many(self):
        wide = name("p")
        for _ in range(4):
            wide = ("sum", wide, wide)
        desk = Desk(Book(2, (("a", fun(name("inc", name("inc", number(1))), {"inc": UNARY})), ("inc", INC))))
        great = deed_line(("put", "inc", fun(wide, {}, (("p", "num"),))))
        desk.say("ask ends a")
        desk.say("ask ends inc")
        desk.say("undo")
        self.assertEqual([desk.say(line) for line in (great, "if " + great)], [("too many",)] * 2)
        self.assertEqual((len(desk.bench.deeds()), len(desk.bench.undone())), (1, 1))
        desk.bench.do(deed_of_line(great))
        # Lots with which it is too great are passed by: it is not told that inc is why.
        self.assertEqual([desk.say(line) for line in ("answers", "why a", "undo")], [("too many",), ("nothing",),
                                                                                     ("too many",)])
        self.assertEqual(desk.say("entries"), ("a", "inc"))
        self.assertEqual(len(desk.bench.deeds()), 2)

    def test_by_chance(self):
        rng = some(970)
        seen = {}
        for _ in range(15):
            sorts = random_sorts(rng, "abc")
            first = random_book(rng, words="abc", sorts=sorts)
            desk, model = Desk(first), Model(first)
            for _ in range(10):
                line = self.line(rng, model, sorts)
                wanted = self.wanted(desk.bench.twin(), line)
                self.assertEqual(desk.say(line), wanted, line)
                seen[wanted[0].split()[0]] = seen.get(wanted[0].split()[0], 0) + 1
                model.deeds = desk.bench.deeds()
                self.assertEqual(desk.say("journal"), tuple(journal(desk.bench)) or ("nothing",))
                self.assertEqual(desk.say("entries"), tuple(functions_of(desk.bench.book)) or ("nothing",))
                self.assertEqual(desk.say("open"), tuple(open_names(desk.bench.book)) or ("nothing",))
        self.assertGreater(seen["cannot"], 5)
        self.assertGreater(seen["nothing"], 5)

    def line(self, rng, model, sorts):
        way = rng.choice(("deed", "deed", "deed", "if", "undo", "redo", "why"))
        if way in ("undo", "redo"):
            return way
        if way == "why":
            return "why " + rng.choice("abcd")
        return ("if " if way == "if" else "") + deed_line(random_deed(rng, model, sorts))

    def wanted(self, bench, line):
        """A second way: what is told by the bench itself."""
        try:
            if line.startswith("why "):
                word, first, now = line[4:], dict(bench.first.entries), dict(bench.book.entries)
                if word not in first or word not in now:
                    return ("what",)
                found = ["other"] if list(first) != list(now) else culprits(bench.first, bench.book, word)
                return tuple(found or ["nothing"])
            ahead = bench.book
            if line.startswith("if "):
                changes, answers = bench.what_if(deed_of_line(line[3:]))
                lines = [word + " " + how for word,
                         how in changes.items()] + [f"{at} {self.text(one)} > {self.text(other)}" for at, one,
                                                    other in answers]
                return tuple(lines or ["nothing"])
            if line in ("undo", "redo"):
                getattr(bench, line)()
            else:
                bench.do(deed_of_line(line))
            return tuple([word + " " + how for word, how in compared(ahead, bench.book).items() if how != "same"]
                         or ["nothing"])
        except NotLet as error:
            return ("cannot " + error.why,)
        except TooMany:
            return ("too many",)

    def text(self, answer):
        if isinstance(answer, tuple):
            return f"{answer[0]} {answer[1]}"
        return {True: "yes", False: "no"}.get(answer, answer)

    def test_errors(self):
        for thing in ODD_VALUES + [fun(SKIP), bench_of()]:
            with self.assertRaises(BadBook) as caught:
                Desk(thing)
            self.assertIsNone(caught.exception.part)


if __name__ == "__main__":
    unittest.main()
