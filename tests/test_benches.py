"""Point 95: workbenches: deeds done, taken back and done again."""

import unittest

from libraries import INC, UNARY, fun, random_book, random_sorts
from playsalike.benches import Bench, is_deed
from playsalike.books import Book
from playsalike.edits import compared, edited
from playsalike.errors import BadBook, BadDeed, BadNumber, NotLet, PlayError, TooMany
from playsalike.questions import answered
from samples import NUM, ODD_VALUES, SKIP, name, number, some
from workbenches import CALLS, ENDS, FIRST, NEVER, ONE, SAME, SLOW, ZERO, Model, bench_of, random_deed

class IsDeed(unittest.TestCase):
    def test_is_deed(self):
        for thing in (("put", "a", ONE), ("drop", "a"), ("ask", SAME), ("ask", ENDS), ("unask", 0), ("unask", 10 ** 9),
                      ("back", "a", 0),
                      ("back", "zzz", 10 ** 9)):
            self.assertIs(is_deed(thing=thing), True)
        for thing in ODD_VALUES + [("put", "a", number(1)), ("put", "A", ONE), ("drop", ""), ("drop", "a", 1),
                                   ["drop", "a"], ("ask",), ("ask", "a"),
                                   ("ask", ("same", "a")), ("ask", SAME, SAME), ("ask", list(SAME)), ("unask", -1),
                                   ("unask", 10 ** 9 + 1),
                                   ("unask", True), ("unask", "a"), ("unask",), ("back", "a"), ("back", "a", -1),
                                   ("back", "a", None), ("back", 0, 0),
                                   ("back", "A", 0), ("back", "a", 10 ** 9 + 1), ("back", "a", False), ("undo",),
                                   (["ask"], SAME), ({}, "a"),
                                   ("back", "a", 0, 0), ("unask", 0, 0), SAME, FIRST]:
            self.assertIs(is_deed(thing), False)


class Benches(unittest.TestCase):
    def refused(self, bench, deed, why):
        told = bench.deeds(), bench.undone(), bench.book, bench.questions()
        for call in (bench.do, bench.what_if):
            with self.assertRaises(NotLet) as caught:
                call(deed)
            self.assertEqual(caught.exception.why, why)
        self.assertEqual((bench.deeds(), bench.undone(), bench.book, bench.questions()), told)

    def test_a_new_bench(self):
        bench = Bench(book=FIRST)
        self.assertEqual((bench.first, bench.book), (FIRST, FIRST))
        self.assertEqual((bench.questions(), bench.answers(), bench.deeds(), bench.undone()), ([], [], [], []))
        self.assertEqual((bench.versions("a"), bench.versions("z"), bench.versions(word="inc")), ([CALLS], [], [INC]))
        for thing in ODD_VALUES:
            self.assertEqual(bench.versions(thing), [CALLS] if thing == "a" else [])

    def test_edits(self):
        bench = Bench(FIRST)
        self.assertIsNone(bench.do(deed=("put", "a", ONE)))
        self.assertEqual(bench.book, Book(2, (("a", ONE), ("b", ZERO), ("inc", INC))))
        bench.do(("drop", "inc"))
        bench.do(("put", "new", NEVER))
        self.assertEqual(bench.book, Book(2, (("a", ONE), ("b", ZERO), ("new", NEVER))))
        self.assertEqual(bench.first, FIRST)
        self.assertEqual(bench.deeds(), [("put", "a", ONE), ("drop", "inc"), ("put", "new", NEVER)])
        self.assertEqual((bench.versions("a"), bench.versions("inc"), bench.versions("new")),
                         ([CALLS, ONE], [INC], [NEVER]))
        self.refused(bench, ("drop", "inc"), "word")
        self.refused(bench, ("put", "a", fun(number(0), size=3)), "entries")
        self.refused(bench, ("put", "a", fun(name("a"), {"a": NUM})), "ring")
        self.refused(bench, ("put", "a", fun(name("b", number(0)), {"b": UNARY})), "sorts")
        self.refused(bench, ("put", "c", fun(number(0), {}, (("a", "num"),))), "params")
        self.refused(bench, ("put", "c", fun(number(0), {"v": NUM, "w": NUM, "x": NUM, "b": NUM}, (("q", "num"),))),
                     "many")

    def test_undo_and_redo(self):
        bench = bench_of(("put", "a", ONE), ("drop", "inc"))
        self.assertIsNone(bench.undo())
        self.assertEqual((bench.deeds(), bench.undone()), ([("put", "a", ONE)], [("drop", "inc")]))
        bench.undo()
        self.assertEqual((bench.book, bench.undone()), (FIRST, [("put", "a", ONE), ("drop", "inc")]))
        with self.assertRaises(NotLet) as caught:
            bench.undo()
        self.assertEqual(caught.exception.why, "undo")
        self.assertEqual(bench.undone(), [("put", "a", ONE), ("drop", "inc")])
        self.assertIsNone(bench.redo())
        self.assertEqual((bench.deeds(), bench.undone(), bench.versions("a")), ([("put", "a", ONE)], [("drop", "inc")],
                                                                                [CALLS, ONE]))
        bench.do(("put", "b", ONE))
        self.assertEqual(bench.undone(), [])
        with self.assertRaises(NotLet) as caught:
            bench.redo()
        self.assertEqual(caught.exception.why, "redo")
        self.assertEqual(bench.deeds(), [("put", "a", ONE), ("put", "b", ONE)])

    def test_what_is_refused_keeps_what_was_undone(self):
        bench = bench_of(("put", "a", ONE))
        bench.undo()
        self.refused(bench, ("drop", "z"), "word")
        self.refused(bench, ("unask", 0), "number")
        bench.redo()
        self.assertEqual(bench.deeds(), [("put", "a", ONE)])

    def test_questions(self):
        bench = bench_of(("ask", SAME), ("ask", ENDS), ("ask", SAME))
        self.assertEqual(bench.questions(), [(0, SAME), (1, ENDS), (2, SAME)])
        self.assertEqual(bench.answers(), [(0, True), (1, ("num", 0)), (2, True)])
        bench.do(("unask", 1))
        self.assertEqual(bench.questions(), [(0, SAME), (2, SAME)])
        self.refused(bench, ("unask", 1), "number")
        self.refused(bench, ("unask", 3), "number")
        bench.do(("ask", ("holds", "zz")))
        self.assertEqual(bench.questions(), [(0, SAME), (2, SAME), (3, ("holds", "zz"))])
        bench.do(("put", "b", ONE))
        self.assertEqual(bench.answers(), [(0, False), (2, False), (3, "lacks")])
        for _ in range(3):
            bench.undo()
        self.assertEqual(bench.questions(), [(0, SAME), (1, ENDS), (2, SAME)])
        bench.undo()
        bench.do(("ask", ("ends", "b")))
        self.assertEqual(bench.questions(), [(0, SAME), (1, ENDS), (2, ("ends", "b"))])

    def test_versions_and_back(self):
        bench = bench_of(("put", "a", ONE), ("put", "a", NEVER))
        self.assertEqual(bench.versions("a"), [CALLS, ONE, NEVER])
        bench.do(("back", "a", 1))
        self.assertEqual((dict(bench.book.entries)["a"], bench.versions("a")), (ONE, [CALLS, ONE, NEVER]))
        bench.do(("drop", "a"))
        bench.do(("back", "a", 0))
        self.assertEqual((bench.book, bench.versions("a")), (FIRST, [CALLS, ONE, NEVER]))
        bench.do(("put", "z", ONE))
        bench.do(("drop", "z"))
        bench.do(("back", "z", 0))
        self.assertEqual(dict(bench.book.entries)["z"], ONE)
        for deed in (("back", "a", 3), ("back", "q", 0), ("back", "z", 1)):
            self.refused(bench, deed, "number")
        bench.do(("drop", "a"))
        bench.do(("put", "inc", fun(number(1))))
        self.refused(bench, ("back", "a", 0), "sorts")

    def test_what_if(self):
        bench = bench_of(("ask", SAME), ("ask", ENDS), ("ask", ("holds", "a")))
        self.assertEqual(bench.what_if(deed=("put", "inc", SLOW)), ({"inc": "unlike"}, []))
        self.assertEqual(bench.what_if(("put", "b", ONE)), ({"b": "unlike"}, [(0, True, False)]))
        self.assertEqual(bench.what_if(("put", "a", NEVER)),
                         ({"a": "less"}, [(0, True, False), (1, ("num", 0), ("on", 0))]))
        self.assertEqual(bench.what_if(("drop", "inc")),
                         ({"a": "other", "b": "other", "inc": "gone"}, [(0, True, False), (1, ("num", 0), "other")]))
        self.assertEqual(bench.what_if(("put", "c", ONE)), ({"c": "new"}, []))
        self.assertEqual(bench.what_if(("unask", 0)), ({}, []))
        self.assertEqual(bench.what_if(("ask", SAME)), ({}, []))
        self.assertEqual((bench.book, len(bench.deeds())), (FIRST, 3))

    def test_since(self):
        bench = bench_of(("put", "a", NEVER), ("ask", SAME), ("put", "c", ONE), ("drop", "b"))
        self.assertEqual(bench.since(number=0), {"a": "less", "b": "gone", "c": "new", "inc": "same"})
        self.assertEqual(bench.since(1), {"a": "same", "b": "gone", "c": "new", "inc": "same"})
        self.assertEqual(bench.since(3), {"a": "same", "b": "gone", "c": "same", "inc": "same"})
        self.assertEqual(bench.since(4), {"a": "same", "c": "same", "inc": "same"})
        bench.undo()
        for wrong in (-1, 4, None, True, "0", 1.0):
            with self.assertRaises(BadNumber) as caught:
                bench.since(wrong)
            self.assertEqual(caught.exception.part, "number")

    def test_equal(self):
        deeds = [("put", "a", ONE), ("ask", SAME)]
        self.assertEqual(bench_of(*deeds), bench_of(*deeds))
        self.assertFalse(bench_of(*deeds) == bench_of(*deeds[::-1]))
        self.assertFalse(bench_of() == bench_of(book=Book(2, ())))
        self.assertFalse(bench_of(("put", "a", ONE)) == Bench(edited(FIRST, ("put", "a", ONE))))
        one, other = bench_of(*deeds), bench_of(deeds[0])
        one.undo()
        self.assertFalse(one == other)
        other.do(deeds[1])
        other.undo()
        self.assertEqual(one, other)
        one.redo()
        self.assertEqual(one, bench_of(*deeds))
        for thing in ODD_VALUES + [FIRST]:
            self.assertFalse(one == thing)

    def test_lists_are_new(self):
        bench = bench_of(("put", "a", ONE), ("ask", SAME))
        bench.undo()
        for call in (bench.deeds, bench.undone, bench.questions, bench.answers, lambda: bench.versions("a")):
            call().append(None)
        self.assertEqual((bench.deeds(), bench.undone(), bench.questions(), bench.versions("a")),
                         ([("put", "a", ONE)], [("ask", SAME)], [], [CALLS, ONE]))

    def test_too_many_changes_nothing(self):
        wide = name("p")
        for _ in range(4):
            wide = ("sum", wide, wide)
        great = fun(wide, {}, (("p", "num"),))
        bench = bench_of(("put", "a", fun(name("inc", name("inc", number(1))), {"inc": UNARY})))
        with self.assertRaises(TooMany):
            bench.what_if(("put", "inc", great))
        self.assertEqual(len(bench.deeds()), 1)
        bench.do(("put", "inc", great))
        with self.assertRaises(TooMany):
            bench.since(0)
        bench.undo()
        self.assertEqual(bench.since(0)["inc"], "same")

    def test_errors(self):
        for thing in ODD_VALUES + [fun(SKIP)]:
            with self.assertRaises(BadBook) as caught:
                Bench(thing)
            self.assertIsNone(caught.exception.part)
        bench = bench_of(("ask", SAME))
        bench.undo()
        for thing in ODD_VALUES + [("unask", -1), ("undo",), ["drop", "a"], ("put", "a", None), SAME]:
            for call in (bench.do, bench.what_if):
                with self.assertRaises(BadDeed):
                    call(thing)
        self.assertEqual(bench.undone(), [("ask", SAME)])

    def test_by_chance(self):
        rng = some(950)
        seen = {}
        for _ in range(25):
            sorts = random_sorts(rng, "abc")
            first = random_book(rng, words="abc", sorts=sorts)
            bench, model = Bench(first), Model(first)
            for _ in range(14):
                self.step(rng, bench, model, sorts, seen)
                book, asked, versions = model.state()
                self.assertEqual((bench.book, bench.questions()), (book, sorted(asked.items())))
                self.assertEqual((bench.deeds(), bench.undone()), (model.deeds, model.undone))
                self.assertEqual([bench.versions(word) for word in "abcd"], [versions.get(word, []) for word in "abcd"])
            new = bench_of(*model.deeds, book=first)
            self.assertEqual((new.book, new.questions(), new.first), (bench.book, bench.questions(), bench.first))
            self.assertEqual(new == bench, not model.undone)
            try:
                self.assertEqual(bench.answers(), [(number_of, answered(bench.book, question)) for number_of,
                                                   question in bench.questions()])
                for at in range(len(model.deeds) + 1):
                    self.assertEqual(bench.since(at), compared(model.state(model.deeds[:at])[0], bench.book))
            except TooMany:
                continue
        self.assertGreater(min(seen[key] for key in ("undo", "redo", "number", "word", None)), 5)

    def step(self, rng, bench, model, sorts, seen):
        way = rng.choice(("undo", "redo", "deed", "deed", "deed", "deed"))
        if way == "undo" and model.deeds:
            bench.undo()
            model.undone.insert(0, model.deeds.pop())
            seen["undo"] = seen.get("undo", 0) + 1
        elif way == "redo" and model.undone:
            bench.redo()
            model.deeds.append(model.undone.pop(0))
            seen["redo"] = seen.get("redo", 0) + 1
        elif way == "deed":
            deed = random_deed(rng, model, sorts)
            why = model.why(deed)
            seen[why] = seen.get(why, 0) + 1
            if why is not None:
                self.refused(bench, deed, why)
                return
            self.check_what_if(bench, model, deed)
            bench.do(deed)
            model.deeds.append(deed)
            model.undone = []

    def check_what_if(self, bench, model, deed):
        behind = bench_of(*model.deeds, deed, book=model.first)
        try:
            changes = {word: told for word, told in compared(bench.book, behind.book).items() if told != "same"}
            now, then = dict(bench.answers()), dict(behind.answers())
        except PlayError:
            return
        unlike = [(at, now[at], then[at]) for at in sorted(now) if at in then and now[at] != then[at]]
        self.assertEqual(bench.what_if(deed), (changes, unlike))


if __name__ == "__main__":
    unittest.main()
