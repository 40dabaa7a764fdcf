"""Point 37: how whole pieces end, or that they never do."""

import unittest

from playsalike.arounds import Around, whole_of
from playsalike.errors import BadPiece
from playsalike.evaluating import evaluated
from playsalike.outcomes import outcome
from playsalike.pieces import Function, Piece, put
from samples import BOX, DO, NUM, ODD_VALUES, SKIP, count_nodes, name, number, random_term, some

B, C = name("b"), name("c")


def told(term, size=2):
    return outcome(Piece(size, {}, term))


def counted(word, further):
    """Adds one to the box; when this comes to 0 again goes further."""
    box = name(word)
    return ("if", ("same", ("get", box), number(3)), ("then", ("set", box, number(0)), further),
            ("set", box, ("sum", ("get", box), number(1))))


class Outcomes(unittest.TestCase):
    def test_ends(self):
        self.assertEqual(told(number(1)), ("num", 1))
        self.assertEqual(told(SKIP), ("do", 0))
        self.assertEqual(told(("then", ("claim", number(0)), number(1))), ("broken", 0))
        self.assertEqual(told(("never", "num")), ("on", 0))
        self.assertEqual(told(("never", "do")), ("on", 0))
        self.assertEqual(outcome(piece=Piece(2, {}, SKIP)), ("do", 0))

    def test_loops_that_never_end(self):
        swap = ("while", number(1), ("set", B, ("not", ("get", B))))
        self.assertEqual(told(("while", number(1), SKIP)), ("on", 0))
        self.assertEqual(told(("new", "b", 0, swap)), ("on", 0))
        inner = ("new", "b", 0, ("while", number(1), ("new", "c", 1, ("while", ("get", C), ("set", C, number(0))))))
        self.assertEqual(told(inner), ("on", 0))
        self.assertEqual(told(("while", number(1), ("claim", number(0)))), ("broken", 0))

    def test_a_loop_that_begins_alike_in_another_run_of_it_ends(self):
        count = ("new", "b", 0, ("while", ("below", ("get", B), number(3)), ("then", (
            "new", "c", 0, ("while", ("below", ("get", C), number(2)), ("set", C, ("sum", ("get", C), number(1))))),
            ("set", B, ("sum", ("get", B), number(1))))))
        self.assertEqual(told(count, 4), ("do", 0))

    def test_long_loops_that_end(self):
        boxes = {word: BOX for word in "xyz"}
        piece = Piece(4, {**boxes, "go": DO}, ("while", number(1), name("go")))
        piece = put(piece, "go", Function(4, {**boxes, "go": DO}, (), counted("x", name("go"))))
        piece = put(piece, "go", Function(4, {**boxes, "go": DO}, (), counted("y", name("go"))))
        piece = put(piece, "go", Function(4, boxes, (), counted("z", ("claim", number(0)))))
        given = {word: BOX for word in "abc"}
        functions = {word: Function(4, given, (), name(other)) for word, other in zip("xyz", "abc")}
        around = Around(4, boxes, "do", (("a", 0), ("b", 1), ("c", 2)), functions, name("it"))
        whole = whole_of(piece, around)
        self.assertEqual(outcome(whole), ("broken", 0))
        word, _, steps = evaluated(whole, 10 ** 6)
        self.assertEqual(word, "broken")
        self.assertGreater(steps, 64 * 5 - 100)

    def test_errors_in_their_sequence(self):
        for thing in ODD_VALUES + [Function(2, {}, (), SKIP)]:
            with self.assertRaises(BadPiece) as caught:
                outcome(thing)
            self.assertIsNone(caught.exception.part)
        with self.assertRaises(BadPiece) as caught:
            outcome(Piece(2, {"x": NUM}, SKIP))
        self.assertEqual(caught.exception.part, "whole")

    def test_random_pieces_against_evaluated(self):
        rng = some(37)
        seen = {}
        for _ in range(3000):
            size = rng.choice((2, 3, 4))
            term = random_term(rng, size, {}, rng.choice(("num", "do")), rng.choice((4, 6, 8)))
            if count_nodes(term) > 60:
                continue
            piece = Piece(size, {}, term)
            ended = outcome(piece)
            self.assertEqual(evaluated(piece, 20000)[:2], ended)
            seen[ended[0]] = seen.get(ended[0], 0) + 1
        self.assertGreater(min(seen[word] for word in ("num", "do", "broken", "on")), 50)

    def test_pieces_that_put_makes(self):
        piece = Piece(2, {"x": NUM}, ("while", name("x"), SKIP))
        self.assertEqual(outcome(put(piece, "x", Function(2, {}, (), number(1)))), ("on", 0))
        self.assertEqual(outcome(put(piece, "x", Function(2, {}, (), number(0)))), ("do", 0))


if __name__ == "__main__":
    unittest.main()
