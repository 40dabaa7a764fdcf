"""Points 74 and 75: pieces played together with what is given for their names; whole programs."""

import unittest

from meanings import SORTS, random_function, random_names, random_piece
from playsalike.couples import Couple
from playsalike.errors import BadGivings, BadMove, BadPiece, TooMany
from playsalike.evaluating import evaluated
from playsalike.houses import House
from playsalike.outcomes import outcome
from playsalike.pieces import Function, Piece, made_piece, put
from playsalike.programs import programmed, whole_piece
from samples import (BOX, DO, NUM, ODD_VALUES, SKIP, count_nodes, depth_of, leveled, name, number, put_by_tags,
                     some)

ASK = ("ask",)
X, B, P = name("x"), name("b"), name("p")
F = {"f": (("num",), "num")}
P_NUM = (("p", "num"),)
PIECE = Piece(2, F, ("sum", name("f", number(1)), number(1)))
TWICE = Function(2, {}, (("p", "num"),), ("sum", P, P))


def random_givings(rng, piece, names):
    """Givings for some names of the piece; names of functions are of these."""
    given = {}
    for word in rng.sample(sorted(piece.names), rng.randint(0, len(piece.names))):
        if piece.names[word] == BOX and rng.random() < 0.5:
            given[word] = rng.randrange(piece.size)
        else:
            given[word] = random_function(rng, piece.size, piece.names[word], names, rng.choice((2, 3, 4)))
    return given


def together(piece, givings):
    """The piece in which all is put in, as put and new make it."""
    whole = piece
    for word, given in givings.items():
        if isinstance(given, Function):
            whole = put(whole, word, given)
    term, names = whole.term, dict(whole.names)
    for word, given in givings.items():
        if not isinstance(given, Function):
            term = ("new", word, given, term)
            del names[word]
    return made_piece(piece.size, names, term, piece.kind)


def state(couple):
    return (couple.piece, couple.givings, couple.moves, couple.word, couple.can_hear(), couple.passed())


class Couples(unittest.TestCase):
    def test_a_new_couple(self):
        couple = Couple(piece=PIECE, givings={"f": TWICE})
        self.assertEqual(state(couple), (PIECE, {"f": TWICE}, (), "new", [ASK], 0))

    def test_givings_are_ascending_and_not_changed(self):
        piece = Piece(2, {"v": BOX, "a": BOX, "x": NUM}, ("then", ("set", name("v"), X), ("get", name("a"))))
        givings = {"v": 1, "a": 0}
        couple = Couple(piece, givings)
        self.assertEqual(list(couple.givings.items()), [("a", 0), ("v", 1)])
        couple.hear(ASK)
        couple.hear(("num", "x", 0))
        self.assertEqual(list(givings.items()), [("v", 1), ("a", 0)])
        self.assertEqual(list(couple.givings.items()), [("a", 0), ("v", 1)])
        self.assertEqual(couple.moves, (ASK, ("call", "x"), ("num", "x", 0), ("num", 0)))

    def test_moves_passed_within(self):
        couple = Couple(PIECE, {"f": TWICE})
        self.assertEqual(couple.hear(move=ASK), ("num", 1))
        # call f; p asked and answered, twice; the answer of f.
        self.assertEqual((couple.word, couple.passed(), couple.moves), ("ended", 6, (ASK, ("num", 1))))
        self.assertEqual(couple.can_hear(), [])
        piece = Piece(2, {"v": BOX}, ("then", ("set", name("v"), number(1)), ("get", name("v"))))
        couple = Couple(piece, {"v": 0})
        self.assertEqual((couple.hear(ASK), couple.passed()), (("num", 1), 4))
        box = Function(2, {"go": DO}, (), ("made", ("then", name("go"), number(0)), "n", name("go")))
        couple = Couple(piece, {"v": box})
        self.assertEqual((couple.hear(ASK), couple.passed()), (("call", "go"), 1))
        self.assertEqual((couple.hear(("did", "go")), couple.passed()), (("call", "go"), 3))
        self.assertEqual((couple.hear(("did", "go")), couple.passed()), (("num", 0), 4))

    def test_nothing_given(self):
        couple, house = Couple(PIECE, {}), House(PIECE)
        for move in (ASK, ("ask", "f", 0), ("num", "f", 1)):
            self.assertEqual(couple.can_hear(), house.can_hear())
            self.assertEqual(couple.hear(move), house.hear(move))
            self.assertEqual((couple.moves, couple.word, couple.passed()), (house.moves, house.word, 0))

    def test_box_arguments_and_box_parameters(self):
        piece = Piece(3, {"f": (("box",), "do")}, ("new", "b", 1, ("then", name("f", B), ("get", B))))
        given = Function(3, {}, (("p", "box"),), ("set", P, ("sum", ("get", P), number(1))))
        couple = Couple(piece, {"f": given})
        self.assertEqual((couple.hear(ASK), couple.passed()), (("num", 2), 6))

    def test_functions_that_are_asked_within_one_another(self):
        piece = Piece(3, F, name("f", name("f", name("f", number(1)))))
        add = Function(3, {"x": NUM}, (("p", "num"),), ("sum", ("sum", P, X), P))
        couple = Couple(piece, {"f": add})
        told, heard = couple.hear(ASK), 0
        while couple.word == "waits":
            self.assertEqual(told, ("call", "x"))
            heard += 1
            told = couple.hear(("num", "x", 0))
        self.assertEqual((told, heard), (("num", 8 % 3), 7))

    def test_unlike_functions_that_are_asked_within_one_another(self):
        piece = Piece(3, {**F, "g": (("do",), "num")}, name("f", name("g", ("claim", name("f", number(1))))))
        first = Function(3, {"x": NUM}, P_NUM, ("sum", P, X))
        second = Function(3, {"y": NUM}, (("q", "do"),), ("then", name("q"), name("y")))
        couple = Couple(piece, {"f": first, "g": second})
        house = House(together(piece, {"f": first, "g": second}))
        for move in (ASK, ("num", "x", 1), ("num", "y", 2), ("num", "x", 2)):
            self.assertEqual(couple.hear(move), house.hear(move))
        self.assertEqual((couple.word, couple.moves[-1]), ("ended", ("num", 1)))

    def test_names_of_functions_that_are_names_of_the_piece_and_parameters_of_others(self):
        names = {**F, "x": NUM, "g": (("num",), "num")}
        piece = Piece(2, names, ("sum", X, ("sum", name("f", X), name("g", X))))
        first = Function(2, {"x": NUM}, (("p", "num"),), ("sum", X, P))
        second = Function(2, {}, (("x", "num"),), ("not", X))
        couple = Couple(piece, {"f": first, "g": second})
        house = House(together(piece, {"f": first, "g": second}))
        for move in (ASK,) + (("num", "x", 1),) * 4:
            self.assertEqual(couple.hear(move), house.hear(move))
        self.assertEqual((couple.word, couple.moves), ("ended", house.moves))

    def test_lost(self):
        loop = Piece(2, {"x": NUM, "go": DO}, ("while", X, name("go")))
        for givings in ({"x": Function(2, {}, (), number(1)), "go": Function(2, {}, (), SKIP)},
                        {"x": Function(2, {}, (), ("never", "num"))},
                        {"x": Function(2, {}, (), ("then", ("while", number(1), SKIP), number(1)))}):
            couple = Couple(loop, givings)
            self.assertIsNone(couple.hear(ASK))
            self.assertEqual(state(couple)[2:], ((ASK,), "lost", [], None))
            with self.assertRaises(BadMove):
                couple.hear(ASK)
        flips = Piece(2, {"v": BOX}, ("while", number(1), ("set", name("v"), ("not", ("get", name("v"))))))
        self.assertIsNone(Couple(flips, {"v": 1}).hear(ASK))

    def test_broken_within(self):
        couple = Couple(PIECE, {"f": Function(2, {}, (("p", "num"),), ("then", ("claim", ("not", P)), P))})
        self.assertEqual(couple.hear(ASK), ("break",))
        self.assertEqual((couple.word, couple.can_hear(), couple.passed()), ("broken", [], 3))

    def test_other_moves_are_refused(self):
        piece = Piece(2, {**F, "x": NUM}, name("f", X))
        couple = Couple(piece, {"f": TWICE})
        couple.hear(ASK)
        before = state(couple)
        self.assertEqual(before[4], [("num", "x", 0), ("num", "x", 1)])
        for move in ODD_VALUES + [ASK, ("ask", "f", 0), ("num", "f", 0), ("num", "x", True), ["num", "x", 1], ("ask", "x", 0)]:
            with self.assertRaises(BadMove):
                couple.hear(move)
        self.assertEqual(state(couple), before)

    def test_beside_a_house_of_the_piece_that_is_made(self):
        rng = some(74)
        seen = {}
        outside = {"x": NUM, "y": DO, "z": (("num",), "num"), "zz": BOX}
        for _ in range(700):
            size = rng.choice((2, 2, 3))
            names = random_names(rng, 2)
            names.pop("x", None)
            if rng.random() < 0.3:
                names["x"] = NUM
            piece = random_piece(rng, rng.choice((4, 5, 6)), size=size, names=names, nodes=4)
            givings = random_givings(rng, piece, outside)
            if "x" in givings:
                givings = {word: given for word, given in givings.items()
                           if not isinstance(given, Function) or "x" not in given.names}
            try:
                whole = together(piece, givings)
            except BadPiece:
                continue                  # more than four names
            couple, house = Couple(piece, givings), House(whole)
            for _ in range(8):
                self.assertEqual(couple.can_hear(), house.can_hear())
                move = rng.choice(couple.can_hear())
                self.assertEqual(couple.hear(move), house.hear(move))
                self.assertEqual((couple.moves, couple.word), (house.moves, house.word))
                seen[couple.word] = seen.get(couple.word, 0) + 1
                if couple.word != "waits":
                    break
        self.assertGreater(min(seen[word] for word in ("waits", "ended", "broken", "lost")), 20)

    def test_twins(self):
        rng = some(75)
        for _ in range(150):
            piece = random_piece(rng, 5, names={"f": (("num",), "num"), "go": (("do",), "do"), "v": BOX}, size=2)
            couple = Couple(piece, random_givings(rng, piece, {"x": NUM}))
            for _ in range(rng.randint(0, 3)):
                if couple.can_hear():
                    couple.hear(rng.choice(couple.can_hear()))
            twin = couple.twin()
            self.assertIs(type(twin), Couple)
            before = state(couple)
            self.assertEqual(state(twin), before)
            while twin.can_hear() and len(twin.moves) < 14:
                twin.hear(rng.choice(twin.can_hear()))
            self.assertEqual(state(couple), before)
            for move in twin.moves[len(couple.moves)::2]:
                couple.hear(move)
            self.assertEqual(state(couple), state(twin))

    def test_wrong_givings(self):
        piece = Piece(2, {**F, "x": NUM, "v": BOX}, name("f", X))
        box = Function(2, {}, (), ("made", number(0), "n", SKIP))
        bad = [
            {"y": 0}, {"x": 0}, {"v": 2}, {"v": -1}, {"v": True}, {"v": None}, {"f": 0}, {0: 0}, {"f": None},
            {"x": Function(3, {}, (), number(0))}, {"x": Function(2, {}, (), SKIP)}, {"x": TWICE},
            {"f": Function(2, {}, (), number(0))}, {"f": Function(2, {}, (("p", "do"),), number(0))},
            {"v": Function(3, {}, (), ("made", number(0), "n", SKIP))}, {"v": Function(2, {}, (), number(0))},
            {"x": Function(2, {"x": NUM}, (), X)}, {"x": Function(2, {"v": BOX}, (), number(0)), "v": 0},
            {"x": Function(2, {"f": (("num",), "num")}, (), number(0)), "f": TWICE},
            {"x": Function(2, {"v": NUM}, (), number(0))}, {"x": Function(2, {"f": NUM}, (), number(0))},
            {"x": Function(2, {"z": NUM}, (), number(0)), "v": Function(2, {"z": DO}, (), ("made", number(0), "n", SKIP))},
            {"x": Piece(2, {}, number(0))}, {"v": [0]}, {"x": Function(2, {"x": DO}, (), number(0))},
        ]
        for givings in bad + [thing for thing in ODD_VALUES if thing != {}]:
            for call in (Couple, programmed, whole_piece):
                with self.assertRaises(BadGivings):
                    call(piece, givings)
        for givings in ({}, {"v": 1, "x": Function(2, {"z": NUM}, (), name("z"))}, {"v": box, "f": TWICE},
                        {"v": Function(2, {"x": NUM, "z": BOX}, (), name("z"))}):
            Couple(piece, givings)
        for thing in ODD_VALUES + [TWICE]:
            for call in (Couple, programmed, whole_piece):
                with self.assertRaises(BadPiece) as caught:
                    call(thing, None)
                self.assertIsNone(caught.exception.part)


class Programs(unittest.TestCase):
    def test_by_hand(self):
        self.assertEqual(programmed(piece=PIECE, givings={"f": TWICE}), ("num", 1, 6))
        self.assertEqual(evaluated(whole_piece(piece=PIECE, givings={"f": TWICE}), 100)[:2], ("num", 1))
        self.assertEqual(programmed(Piece(2, {}, SKIP), {}), ("do", 0, 0))
        never = {"f": Function(2, {}, (("p", "num"),), ("never", "num"))}
        self.assertEqual(programmed(PIECE, never), ("lost", 0, None))
        breaks = {"f": Function(2, {}, (("p", "num"),), ("then", ("claim", number(0)), P))}
        self.assertEqual(programmed(PIECE, breaks), ("broken", 0, 1))
        piece = Piece(2, {"v": BOX, "a": BOX, "f": (("num",), "num")}, ("set", name("a"), name("f", ("get", name("v")))))
        self.assertEqual(programmed(piece, {"v": 1, "a": 0, "f": TWICE}), ("do", 0, 12))
        whole = whole_piece(piece, {"v": 1, "a": 0, "f": TWICE})
        self.assertEqual((whole.names, whole.kind, whole.size), ({}, "do", 2))
        self.assertEqual(whole, whole_piece(piece, {"f": TWICE, "a": 0, "v": 1}))
        got = ("get", name("v"))
        self.assertEqual(leveled(whole.term), leveled(("new", "a", 0, ("new", "v", 1, ("set", name("a"), ("sum", got, got))))))

    def test_beside_one_another(self):
        rng = some(751)
        seen = {}
        for _ in range(700):
            names = random_names(rng, 3, SORTS)
            piece = random_piece(rng, rng.choice((4, 5, 6)), names=names, nodes=3)
            givings = {word: rng.randrange(piece.size) if sort == BOX and rng.random() < 0.6 else
                       random_function(rng, piece.size, sort, {}, rng.choice((2, 3, 4))) for word, sort in names.items()}
            ended = programmed(piece, givings)
            try:
                whole = whole_piece(piece, givings)
            except TooMany as error:
                self.check_too_great(piece, givings, error.most)
                continue
            self.assertEqual((whole.size, whole.names, whole.kind), (piece.size, {}, piece.kind))
            seen[ended[0]] = seen.get(ended[0], 0) + 1
            if ended[0] == "lost":
                self.assertEqual(ended, ("lost", 0, None))
                self.assertEqual(outcome(whole), ("on", 0))
            else:
                self.assertEqual(evaluated(whole, 10 ** 5)[:2], ended[:2])
            functions = {word: given for word, given in givings.items() if isinstance(given, Function)}
            wanted = put_by_tags(piece, functions)
            for word in sorted(set(givings) - set(functions), reverse=True):
                wanted = ("new", word, givings[word], wanted)
            self.assertEqual(count_nodes(whole.term), count_nodes(wanted))
        self.assertGreater(min(seen[word] for word in ("num", "do", "broken", "lost")), 20)

    def check_too_great(self, piece, givings, most):
        whole = together(piece, givings)
        nodes, depth = count_nodes(whole.term), depth_of(whole.term)
        self.assertEqual(most, 60 if nodes > 60 else 12)
        self.assertTrue(nodes > 60 or depth > 12)

    def test_limits(self):
        def nest(many, inner):
            for _ in range(many):
                inner = ("not", inner)
            return inner

        nine = Function(2, {}, (("p", "num"),), nest(8, P))
        piece = Piece(2, {**F, "v": BOX}, nest(2, name("f", ("get", name("v")))))
        self.assertEqual(depth_of(together(piece, {"f": nine, "v": 0}).term), 13)
        with self.assertRaises(TooMany) as caught:
            whole_piece(piece, {"f": nine, "v": 0})
        self.assertEqual(caught.exception.most, 12)
        whole_piece(piece, {"f": Function(2, {}, (("p", "num"),), nest(7, P)), "v": 0})
        wide = Function(2, {}, (("p", "num"),), ("sum", ("sum", ("sum", P, P), ("sum", P, P)), ("sum", P, P)))
        piece = Piece(2, F, name("f", name("f", number(0))))
        self.assertEqual(count_nodes(together(piece, {"f": wide}).term), 71)
        with self.assertRaises(TooMany) as caught:
            whole_piece(piece, {"f": wide})
        self.assertEqual(caught.exception.most, 60)
        self.assertEqual(programmed(piece, {"f": wide})[:2], ("num", 0))
        # What is too great on the way, but not in the end, is let.
        drops = Piece(2, {"a": NUM, "z": (("num",), "num")}, name("z", ("sum", name("a"), name("a"))))
        forty = ("sum",) + (nest(9, number(0)),) * 2
        forty = ("sum", forty, forty)
        dropping = Function(2, {}, (("p", "num"),), number(1))
        self.assertEqual(whole_piece(drops, {"a": Function(2, {}, (), forty), "z": dropping}).term, number(1))

    def test_what_is_not_given(self):
        piece = Piece(2, {**F, "x": NUM}, name("f", X))
        for givings in ({}, {"f": TWICE}, {"f": TWICE, "x": Function(2, {"z": NUM}, (), number(0))}):
            for call in (programmed, whole_piece):
                with self.assertRaises(BadGivings):
                    call(piece, givings)
        Couple(piece, {"f": TWICE, "x": Function(2, {"z": NUM}, (), number(0))})


if __name__ == "__main__":
    unittest.main()
