"""Point 14: the plain meaning of whole pieces."""

import unittest

from playsalike.errors import BadNumber, BadPiece
from playsalike.evaluating import evaluated
from playsalike.pieces import Function, Piece, function_of, put
from samples import BOX, NUM, ODD_VALUES, SKIP, count_nodes, name, number, plain_meaning
from samples import random_term, some

B, C, W = name("b"), name("c"), name("w")


def told(term, size=2, steps=1000):
    return evaluated(Piece(size, {}, term), steps)


def new_b(n, *deeds):
    """A new box b that begins with n, and the deeds one behind the other."""
    term = deeds[-1]
    for deed in reversed(deeds[:-1]):
        term = ("then", deed, term)
    return ("new", "b", n, term)


class Evaluating(unittest.TestCase):
    def test_numbers_and_deeds(self):
        self.assertEqual(told(number(1)), ("num", 1, 1))
        self.assertEqual(told(SKIP), ("do", 0, 1))
        self.assertEqual(told(("then", SKIP, SKIP)), ("do", 0, 3))
        self.assertEqual(told(("then", SKIP, number(1))), ("num", 1, 3))
        self.assertEqual(evaluated(piece=Piece(2, {}, SKIP), steps=1), ("do", 0, 1))

    def test_words_of_two_numbers(self):
        for size in (2, 3, 4):
            for i in range(size):
                for j in range(size):
                    for word, worth in (("sum", (i + j) % size), ("less", (i - j) % size),
                                        ("same", int(i == j)), ("below", int(i < j))):
                        self.assertEqual(told((word, number(i), number(j)), size), ("num", worth, 3))

    def test_not_and_if(self):
        for n in range(4):
            self.assertEqual(told(("not", number(n)), 4), ("num", int(n == 0), 2))
            self.assertEqual(told(("if", number(n), number(3), ("not", number(1))), 4),
                             ("num", 3, 3) if n else ("num", 0, 4))
        self.assertEqual(told(("if", number(0), ("never", "do"), SKIP)), ("do", 0, 3))

    def test_never(self):
        for steps in (1, 2, 1000, 10 ** 6):
            self.assertEqual(told(("never", "num"), 2, steps), ("on", 0, steps))
            self.assertEqual(told(("never", "do"), 2, steps), ("on", 0, steps))
            self.assertEqual(told(("sum", number(1), ("never", "num")), 2, steps), ("on", 0, steps))

    def test_boxes(self):
        self.assertEqual(told(new_b(1, ("get", B))), ("num", 1, 3))
        self.assertEqual(told(new_b(1, ("set", B, number(0)), ("get", B))), ("num", 0, 7))
        self.assertEqual(told(new_b(2, ("set", B, ("sum", ("get", B), ("get", B))), ("get", B)), 3),
                         ("num", 1, 11))
        self.assertEqual(told(("new", "b", 1, ("new", "b", 0, ("get", B)))), ("num", 0, 4))
        two = ("sum", ("new", "b", 1, ("then", ("set", B, number(0)), ("get", B))), ("new", "b", 1, ("get", B)))
        self.assertEqual(told(two), ("num", 1, 11))

    def test_a_new_box_begins_anew_each_time(self):
        once = ("new", "c", 0, ("then", ("set", C, ("sum", ("get", C), number(1))), ("set", B, ("get", C))))
        self.assertEqual(told(new_b(0, once, once, ("get", B)))[:2], ("num", 1))

    def test_made_boxes(self):
        box = ("made", ("get", B), "w", ("set", B, ("not", W)))
        self.assertEqual(told(new_b(1, ("get", box))), ("num", 1, 5))
        self.assertEqual(told(new_b(0, ("set", box, number(0)), ("get", box))), ("num", 1, 13))
        self.assertEqual(told(("get", ("made", number(1), "w", ("never", "do")))), ("num", 1, 3))
        self.assertEqual(told(("set", ("made", ("never", "num"), "w", SKIP), number(1))), ("do", 0, 4))
        hidden = ("set", ("made", number(0), "b", ("claim", B)), ("get", B))
        self.assertEqual(told(new_b(1, hidden))[:2], ("do", 0))
        self.assertEqual(told(new_b(0, hidden))[:2], ("broken", 0))

    def test_set_works_out_its_number_first_and_then_the_box(self):
        writing = ("made", number(0), "w", ("claim", number(0)))
        self.assertEqual(told(("set", writing, ("never", "num"))), ("on", 0, 1000))
        self.assertEqual(told(("set", writing, number(1))), ("broken", 0, 5))
        box = ("made", number(0), "w", ("set", B, ("sum", W, ("get", B))))
        both = ("set", box, ("then", ("set", B, number(2)), number(1)))
        self.assertEqual(told(new_b(0, both, ("get", B)), 4)[:2], ("num", 3))

    def test_loops(self):
        loop = ("while", ("below", ("get", B), number(3)), ("set", B, ("sum", ("get", B), number(1))))
        self.assertEqual(told(new_b(0, loop, ("get", B)), 4), ("num", 3, 1 + 1 + 1 + 4 * 4 + 3 * 6 + 2))
        self.assertEqual(told(("while", number(0), ("never", "do"))), ("do", 0, 2))
        for steps in (1, 2, 3, 4, 5, 17, 1000):
            self.assertEqual(told(("while", number(1), SKIP), 2, steps), ("on", 0, steps))

    def test_claims(self):
        self.assertEqual(told(("claim", number(2)), 3), ("do", 0, 2))
        self.assertEqual(told(("claim", number(0)), 3), ("broken", 0, 2))
        self.assertEqual(told(("then", ("claim", number(0)), ("never", "num"))), ("broken", 0, 3))
        self.assertEqual(told(("then", ("claim", ("never", "num")), number(0))), ("on", 0, 1000))
        first = ("then", ("claim", number(1)), ("then", ("claim", number(0)), number(1)))
        self.assertEqual(told(first), ("broken", 0, 6))

    def test_the_last_step_that_is_enough(self):
        loop = ("while", ("get", B), ("set", B, ("less", ("get", B), number(1))))
        for term in (number(1), new_b(3, loop), new_b(3, loop, ("claim", ("get", B)))):
            word, worth, steps = told(term, 4)
            self.assertNotEqual(word, "on")
            self.assertEqual(told(term, 4, steps), (word, worth, steps))
            self.assertEqual(told(term, 4, steps + 1), (word, worth, steps))
            if steps > 1:
                self.assertEqual(told(term, 4, steps - 1), ("on", 0, steps - 1))

    def test_errors_in_their_sequence(self):
        for thing in ODD_VALUES + [Function(2, {}, (), SKIP)]:
            with self.assertRaises(BadPiece) as caught:
                evaluated(thing, None)
            self.assertIsNone(caught.exception.part)
        with self.assertRaises(BadPiece) as caught:
            evaluated(Piece(2, {"x": NUM}, SKIP), 0)
        self.assertEqual(caught.exception.part, "whole")
        for steps in (0, -1, 10 ** 6 + 1, True, 1.0, "1", None, (1,)):
            with self.assertRaises(BadNumber) as caught:
                evaluated(Piece(2, {}, SKIP), steps)
            self.assertEqual(caught.exception.part, "steps")
        self.assertEqual(told(SKIP, 2, 10 ** 6), ("do", 0, 1))

    def test_random_pieces_against_a_second_evaluator(self):
        rng = some(14)
        ended = {}
        for _ in range(3000):
            size = rng.choice((2, 3, 4))
            term = random_term(rng, size, {}, rng.choice(("num", "do")), rng.choice((3, 5, 7)))
            if count_nodes(term) > 60:
                continue
            piece = Piece(size, {}, term)
            wanted = plain_meaning(piece, 300)
            self.assertEqual(evaluated(piece, 300), wanted)
            ended[wanted[0]] = ended.get(wanted[0], 0) + 1
            steps = wanted[2]
            if steps > 1:
                self.assertEqual(evaluated(piece, steps - 1), ("on", 0, steps - 1))
        self.assertGreater(min(ended[word] for word in ("num", "do", "broken", "on")), 50)

    def test_pieces_as_deep_as_put_makes_them(self):
        piece = Piece(4, {"x": NUM}, ("sum", number(1), ("sum", number(1), name("x"))))
        for _ in range(5):
            piece = put(piece, "x", function_of(piece))
        whole = put(piece, "x", Function(4, {}, (), number(3)))
        self.assertEqual(evaluated(whole, 1000), ("num", (64 + 3) % 4, 129))

    def test_boxes_that_are_put_in(self):
        piece = Piece(3, {"v": BOX}, ("then", ("set", name("v"), number(1)), ("get", name("v"))))
        other = Function(3, {}, (), ("made", number(2), "w", ("claim", W)))
        self.assertEqual(evaluated(put(piece, "v", other), 100), ("num", 2, 9))


if __name__ == "__main__":
    unittest.main()
