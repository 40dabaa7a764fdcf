"""Points 32 to 34, 37 and 38: the machines of the ended plays of pieces, and what is asked of them."""

import unittest

from languages import check_least
from meanings import Player, can_come, machine_by_rows, plays_by_player, random_piece
from playsalike.arounds import Around, whole_of
from playsalike.asking import count_rows, first_row, rows_of
from playsalike.errors import BadNumber, BadPiece, BadRow, TooMany
from playsalike.evaluating import evaluated
from playsalike.letters import in_order
from playsalike.machines import takes
from playsalike.makers import just, nothing
from playsalike.moves import moves_of, teller
from playsalike.outcomes import outcome
from playsalike.pieces import Function, Piece, made_piece
from playsalike.playing import is_begun, is_play
from playsalike.plays import (asked_names, has_play, how_many_plays, least_play, machine_of, may_hear, plays_up_to,
                              reply)
from playsalike.rests import beginnings
from samples import BOX, DO, NUM, ODD_VALUES, SKIP, count_nodes, name, number, random_term, some, too_great

ASK = ("ask",)
V, X, GO = name("v"), name("x"), name("go")
KEEPS = ("then", ("set", V, X), ("get", V))
F = {"f": (("num",), "do")}
LOOKS = ("if", X, SKIP, SKIP)      # asks x, and does nothing with its answer
NO_PIECES = ODD_VALUES + [Function(2, {}, (), SKIP)]


def chained(terms):
    """Terms one behind the other, nested no deeper than is needed."""
    if len(terms) == 1:
        return terms[0]
    middle = len(terms) // 2
    return ("then", chained(terms[:middle]), chained(terms[middle:]))


def boxed(size, names, words, term):
    """The piece of the term with new boxes of these words around it."""
    for word in words:
        term = ("new", word, 0, term)
    return made_piece(size, names, term, "do")


def plays(piece, most=100):
    return plays_up_to(piece, most)


class ByHand(unittest.TestCase):
    def test_a_box_of_what_is_around(self):
        piece = Piece(2, {"v": BOX, "x": NUM}, KEEPS)
        self.assertEqual(plays(piece), [
            [ASK, ("call", "x"), ("num", "x", n), ("set", "v", n), ("kept", "v"), ("get", "v"), ("value", "v", m),
             ("num", m)] for n in range(2) for m in range(2)])
        self.assertEqual(asked_names(piece), ["v", "x"])

    def test_a_new_box(self):
        piece = Piece(2, {"x": NUM}, ("new", "v", 0, KEEPS))
        self.assertEqual(plays(piece), [[ASK, ("call", "x"), ("num", "x", n), ("num", n)] for n in range(2)])

    def test_an_argument(self):
        piece = Piece(2, F, name("f", number(1)))
        machine = machine_of(piece=piece)
        self.assertEqual(len(machine.ways), 6)
        self.assertEqual(machine.letters, tuple(moves_of(piece)))
        self.assertEqual(plays(piece, 8), [
            [ASK, ("call", "f")] + [("ask", "f", 0), ("num", "f", 0, 1)] * many + [("did", "f"), ("do",)]
            for many in range(3)])

    def test_each_word_of_terms(self):
        def told(term, names, *rows):
            self.assertEqual(plays(Piece(3, names, term), 12), [[ASK, *row] for row in rows])

        def xs(n):
            return ("call", "x"), ("num", "x", n)

        told(number(2), {}, [("num", 2)])
        told(SKIP, {}, [("do",)])
        told(("never", "num"), {})
        told(("sum", X, number(2)), {"x": NUM}, *[[*xs(n), ("num", (n + 2) % 3)] for n in range(3)])
        told(("less", number(1), X), {"x": NUM}, *[[*xs(n), ("num", (1 - n) % 3)] for n in range(3)])
        told(("same", X, number(1)), {"x": NUM}, *[[*xs(n), ("num", int(n == 1))] for n in range(3)])
        told(("below", number(1), X), {"x": NUM}, *[[*xs(n), ("num", int(1 < n))] for n in range(3)])
        told(("not", X), {"x": NUM}, *[[*xs(n), ("num", int(n == 0))] for n in range(3)])
        told(("then", GO, number(1)), {"go": DO}, [("call", "go"), ("did", "go"), ("num", 1)])
        told(("if", X, GO, SKIP), {"x": NUM, "go": DO}, [*xs(0), ("do",)],
             *[[*xs(n), ("call", "go"), ("did", "go"), ("do",)] for n in (1, 2)])
        told(("claim", X), {"x": NUM}, [*xs(0), ("break",)], [*xs(1), ("do",)], [*xs(2), ("do",)])
        told(("get", V), {"v": BOX}, *[[("get", "v"), ("value", "v", n), ("num", n)] for n in range(3)])
        told(("set", V, number(2)), {"v": BOX}, [("set", "v", 2), ("kept", "v"), ("do",)])
        told(("get", ("made", X, "w", SKIP)), {"x": NUM}, *[[*xs(n), ("num", n)] for n in range(3)])
        told(("set", ("made", number(0), "w", ("set", V, ("sum", name("w"), number(1)))), X), {"x": NUM, "v": BOX},
             *[[*xs(n), ("set", "v", (n + 1) % 3), ("kept", "v"), ("do",)] for n in range(3)])
        told(("new", "b", 1, ("get", name("b"))), {}, [("num", 1)])

    def test_loops(self):
        piece = Piece(2, {"x": NUM}, ("while", X, SKIP))
        self.assertEqual(plays(piece, 8), [
            [ASK] + [("call", "x"), ("num", "x", 1)] * many + [("call", "x"), ("num", "x", 0), ("do",)]
            for many in range(3)])
        self.assertEqual(plays(Piece(2, {"x": NUM}, ("while", number(1), ("claim", X))), 8), [
            [ASK] + [("call", "x"), ("num", "x", 1)] * many + [("call", "x"), ("num", "x", 0), ("break",)]
            for many in range(3)])
        self.assertEqual(plays(Piece(2, {"x": NUM}, ("then", LOOKS, ("while", number(1), SKIP)))), [])

    def test_box_arguments_are_got_and_set(self):
        use = name("f", name("b"))
        piece = Piece(2, {"f": (("box",), "do")}, ("new", "b", 0, ("then", use, ("get", name("b")))))
        row = [ASK, ("call", "f"), ("set", "f", 0, 1), ("kept", "f", 0), ("get", "f", 0), ("value", "f", 0, 1),
               ("did", "f"), ("num", 1)]
        self.assertTrue(has_play(piece, row))
        self.assertFalse(has_play(piece, row[:-1] + [("num", 0)]))
        self.assertTrue(has_play(piece, row[:2] + [("get", "f", 0), ("value", "f", 0, 0)] + row[2:]))
        piece = Piece(2, {"f": (("box",), "do"), "v": BOX}, name("f", V))
        self.assertTrue(has_play(piece, [
            ASK, ("call", "f"), ("set", "f", 0, 1), ("set", "v", 1), ("kept", "v"), ("kept", "f", 0), ("get", "f", 0),
            ("get", "v"), ("value", "v", 0), ("value", "f", 0, 0), ("did", "f"), ("do",)]))

    def test_claims_that_break_within_arguments(self):
        piece = Piece(2, {"f": (("do", "num"), "do"), "x": NUM}, name("f", ("claim", X), ("then", ("claim", X), X)))
        self.assertEqual([row for row in plays(piece, 7) if row[-1] == ("break",)], [
            [ASK, ("call", "f"), ("ask", "f", i), ("call", "x"), ("num", "x", 0), ("break",)] for i in range(2)])
        self.assertEqual(reply(piece, [ASK, ("call", "f"), ("ask", "f", 1), ("call", "x"), ("num", "x", 1)]),
                         ("call", "x"))

    def test_own_words_are_their_own(self):
        inner = ("new", "v", 1, ("then", ("set", V, X), ("get", V)))
        piece = Piece(2, {"x": NUM, "v": BOX}, ("sum", inner, ("get", V)))
        self.assertEqual(len(plays(piece)), 4)
        self.assertEqual(asked_names(piece), ["v", "x"])
        self.assertEqual(asked_names(Piece(2, {"x": NUM, "v": BOX}, inner)), ["x"])
        self.assertEqual(asked_names(Piece(2, {"x": NUM, "v": BOX}, ("then", ("set", V, X), ("never", "num")))), [])


class Machines(unittest.TestCase):
    def check(self, piece, machine):
        self.assertEqual(machine, machine_by_rows(piece))
        check = machine.letters == tuple(moves_of(piece))
        self.assertTrue(check)

    def test_by_chance_against_rows_put_together(self):
        rng = some(320)
        most = 0
        for _ in range(350):
            piece = random_piece(rng, rng.choice((4, 5, 6)))
            machine = machine_of(piece)
            self.check(piece, machine)
            most = max(most, len(machine.ways))
            if len(machine.ways) < 12:
                check_least(self, machine)
        self.assertGreater(most, 40)

    def test_by_chance_against_a_player(self):
        rng = some(321)
        for _ in range(300):
            piece = random_piece(rng, rng.choice((4, 5, 6, 7)), most=2)
            self.assertEqual({tuple(row) for row in plays(piece, 8)}, plays_by_player(piece, 8))

    def test_ended_plays_are_plays_that_part_at_heard_moves(self):
        rng = some(322)
        for _ in range(250):
            piece = random_piece(rng, 6)
            rows = [row for row in plays(piece, 8)]
            for row in rows:
                self.assertTrue(is_play(piece, row))
            for row in rows[:12]:
                for other in rows[:12]:
                    apart = [at for at, pair in enumerate(zip(row, other)) if pair[0] != pair[1]]
                    if row != other:
                        self.assertEqual(teller(row[apart[0]]), "around")

    def test_nested_numbers_keep_few_states(self):
        term = X
        for _ in range(10):
            term = ("sum", X, term)
        machine = machine_of(Piece(4, {"x": NUM}, term))
        self.assertEqual(len(machine.ways), 88)
        mixed = ("not", ("below", X, ("less", X, ("same", X, ("sum", X, ("not", ("sum", X, ("less", X, X))))))))
        piece = Piece(3, {"x": NUM}, ("if", mixed, ("claim", mixed), SKIP))
        self.check(piece, machine_of(piece))

    def test_numbers_that_wait_for_others(self):
        names = {"x": NUM, "f": (("num", "num"), "num"), "g": (("do",), "num"), "go": DO}
        inner = ("sum", X, ("same", X, X))
        for term in (("set", V, inner), ("set", ("made", number(0), "w", ("set", V, name("w"))), inner)):
            for size in (3, 4):
                piece = Piece(size, {"x": NUM, "v": BOX}, term)
                self.check(piece, machine_of(piece))
        y = ("if", ("not", X), number(2), X)
        for term in (("sum", X, name("f", number(0), ("sum", X, X))), ("sum", X, ("same", X, X)),
                     ("less", X, name("g", ("if", ("sum", X, X), GO, SKIP))), ("below", X, ("less", X, y)),
                     ("sum", X, ("then", ("claim", ("sum", X, X)), X)), ("same", X, ("if", ("same", X, X), X, y)),
                     name("f", inner, number(0)),
                     ("sum", X, name("f", ("sum", X, y), name("f", ("below", X, X), X)))):
            for size in (3, 4):
                piece = Piece(size, names, term)
                self.check(piece, machine_of(piece))

    def test_what_boxes_keep_while_something_waits(self):
        # Each time b is set to what x tells, go waits then, and b is read in a part to come alone.
        b = name("b")
        sets = ("then", ("set", b, X), GO)
        got = ("get", b)
        f = {"f": (("box", "do", "num"), "do"), "g": (("num", "do"), "num")}
        for term in (
                ("then", sets, got), ("while", ("not", got), sets), ("while", ("then", sets, X), ("claim", got)),
                ("if", ("then", sets, X), got, number(0)), ("if", ("then", sets, X), number(0), got),
                ("sum", ("then", sets, X), got), ("sum", ("then", sets, number(0)), ("not", got)),
                ("set", ("made", number(0), "w", ("claim", ("same", got, name("w")))), ("then", sets, X)),
                name("f", b, sets, number(0)), name("f", ("made", got, "w", SKIP), sets, number(0)),
                name("f", ("made", ("then", sets, number(0)), "w", SKIP), SKIP, got),
                name("f", ("made", number(0), "w", sets), SKIP, got), name("g", got, sets),
                ("set", ("made", number(0), "w", ("then", GO, ("claim", name("w")))), X),
                ("set", ("made", number(0), "w", ("while", X, ("claim", name("w")))), X),
                ("set", ("made", number(0), "w", name("f", ("made", name("w"), "u", SKIP), GO, number(0))), X),
                ("set", ("made", number(0), "w", name("f", b, ("claim", name("w")), X)), X),
                ("then", ("new", "c", 0, ("then", ("set", name("c"), X), ("then", GO, ("set", b, ("get", name("c")))))), got),
                ("while", X, ("while", ("then", GO, ("not", got)), ("set", b, X))),
                ("while", X, ("then", ("claim", ("not", got)), ("set", b, ("then", GO, X))))):
            piece = Piece(2, {"x": NUM, "go": DO, **f}, ("new", "b", 0, term))
            self.check(piece, machine_of(piece))

    def test_numbers_by_chance(self):
        rng = some(323)
        for _ in range(60):
            names = {"x": NUM, "f": (("num", "num"), "num")}
            piece = random_piece(rng, rng.choice((4, 5)), names=names, size=rng.choice((3, 4)), kind="num", nodes=9)
            if count_nodes(piece.term) < 22:
                self.check(piece, machine_of(piece))

    def test_numbers_written_within_one_another(self):
        def made(word, inner):
            return ("set", ("made", number(0), word, inner), X)

        deep = ("set", V, ("sum", name("p"), ("sum", name("q"), name("r"))))
        for inner in (deep, ("set", V, name("q")), SKIP):
            piece = Piece(4, {"x": NUM, "v": BOX}, made("p", made("q", made("r", inner))))
            self.check(piece, machine_of(piece))

    def test_boxes_that_leave_no_trace(self):
        for looks in ([], [("if", ("get", name(word)), SKIP, SKIP) for word in "abcdef"]):
            sets = [("set", name(word), X) for word in "abcdef"]
            machine = machine_of(boxed(4, {"x": NUM}, "abcdef", ("while", X, chained(sets + looks))))
            self.assertEqual(machine, machine_of(Piece(4, {"x": NUM}, ("while", X, chained([LOOKS] * 6)))))

    def test_silent_loops_are_gone_through_once(self):
        c = name("c")
        count = ("then", ("set", c, number(3)), ("while", ("get", c), ("set", c, ("less", ("get", c), number(1)))))
        sets = [("set", name(word), X) for word in "abde"]
        machine = machine_of(boxed(4, {"x": NUM}, "abcde", ("while", X, chained(sets + [count, count]))))
        self.assertEqual(machine, machine_of(Piece(4, {"x": NUM}, ("while", X, chained([LOOKS] * 4)))))

    def test_loops_that_go_on_for_ever_behind_some_moves(self):
        on = ("while", ("same", ("get", name("b")), number(1)), SKIP)
        piece = Piece(3, {"x": NUM}, ("new", "b", 0, ("while", X, ("then", ("set", name("b"), X), on))))
        self.check(piece, machine_of(piece))
        self.assertEqual(may_hear(piece, [ASK, ("call", "x"), ("num", "x", 1), ("call", "x")]),
                         [("num", "x", 0), ("num", "x", 2)])
        self.assertIsNone(reply(piece, [ASK, ("call", "x"), ("num", "x", 1), ("call", "x"), ("num", "x", 1)]))

    def test_too_many_states(self):
        def piece(many):
            words = "abcdef"[:many]
            return boxed(4, {"x": NUM}, words, chained(
                [("set", name(word), X) for word in words] + [("claim", ("same", ("get", name(word)), X)) for word in words]))

        self.assertEqual(machine_of(piece(3)), machine_by_rows(piece(3)))
        self.assertLess(len(machine_of(piece(4)).ways), 2000)
        for call in (machine_of, lambda told: has_play(told, None), lambda told: plays_up_to(told, 0),
                     lambda told: how_many_plays(told, 3), least_play, asked_names, lambda told: reply(told, [ASK]),
                     lambda told: may_hear(told, [])):
            with self.assertRaises(TooMany) as caught:
                call(piece(6))
            self.assertEqual(caught.exception.most, 2000)

    def test_just_2000_states(self):
        # Each look at x takes two states; setting v to x takes six, and three are there without all.
        def looking(many, *further):
            return made_piece(2, {"v": BOX, "x": NUM}, chained(list(further) + [LOOKS] * many), "do")

        sets = ("set", V, X)
        self.assertEqual(len(machine_of(looking(10)).ways), 23)
        self.assertEqual(len(machine_of(looking(10, sets)).ways), 28)
        self.assertEqual(len(machine_of(looking(996, sets)).ways), 2000)
        for piece in (looking(997, sets), looking(999)):
            with self.assertRaises(TooMany) as caught:
                machine_of(piece)
            self.assertEqual(caught.exception.most, 2000)

    def test_deep_pieces(self):
        inner = number(1)
        for _ in range(300):
            inner = name("f", inner)
        piece = made_piece(2, {"f": (("num",), "num")}, inner, "num")
        self.assertEqual(least_play(piece), [ASK, ("call", "f"), ("num", "f", 0), ("num", 0)])
        deep = [ASK] + [("call", "f"), ("ask", "f", 0)] * 300
        self.assertEqual(reply(piece, deep), ("num", "f", 0, 1))
        self.assertEqual(reply(piece, deep[:-2]), ("call", "f"))


class Asked(unittest.TestCase):
    def test_has_play(self):
        piece = Piece(2, F, name("f", number(1)))
        row = [ASK, ("call", "f"), ("did", "f"), ("do",)]
        self.assertIs(has_play(piece, row), True)
        self.assertIs(has_play(piece=piece, thing=tuple(row)), True)
        for thing in ODD_VALUES + [row[:-1], row[1:], row + row, [ASK, ("call", "f"), ("did", "f"), ["do"]],
                                   [ASK, ("call", "f"), ("ask", "f", False), ("num", "f", 0, 1)] + row[2:],
                                   [ASK, ("call", "f"), ("ask", "f", 0), ("num", "f", 0, True)] + row[2:], [row]]:
            self.assertIs(has_play(piece, thing), False)

    def test_rows_by_length(self):
        rng = some(33)
        for _ in range(60):
            piece = random_piece(rng, 5, most=2)
            machine = machine_of(piece)
            for most in (0, 1, 5, 8):
                self.assertEqual(plays_up_to(piece=piece, most=most), rows_of(machine, most))
                self.assertEqual(how_many_plays(piece=piece, length=most), count_rows(machine, most))
            self.assertEqual(how_many_plays(piece, 1000), count_rows(machine, 1000))
            self.assertEqual(least_play(piece=piece), first_row(machine))
        self.assertIsNone(least_play(Piece(2, {}, ("never", "do"))))
        self.assertEqual(plays_up_to(Piece(2, {}, ("never", "do")), 100), [])

    def test_more_than_2000_rows(self):
        piece = Piece(2, {"x": NUM}, chained([LOOKS] * 11))
        self.assertEqual(how_many_plays(piece, 24), 2048)
        self.assertEqual(plays_up_to(piece, 23), [])
        with self.assertRaises(TooMany) as caught:
            plays_up_to(piece, 24)
        self.assertEqual(caught.exception.most, 2000)
        piece = Piece(4, {"x": NUM}, chained([LOOKS] * 5))
        self.assertEqual(len(plays_up_to(piece, 100)), 1024)

    def test_replies_and_what_may_be_heard(self):
        rng = some(34)
        seen = {}
        for _ in range(150):
            piece = random_piece(rng, 5, most=2)
            machine = machine_of(piece)
            begun = beginnings(machine)
            self.assertEqual(may_hear(piece, []), [ASK] if machine != nothing(machine.letters) else [])
            heard = [ASK]
            for _ in range(5):
                word, row, _ = Player(piece, heard).played()
                ahead = row[:-1] if word != "lost" else row
                replied = reply(piece=piece, row=tuple(ahead))
                wanted = row[-1] if word != "lost" and takes(begun, row) else None
                self.assertEqual(replied, wanted)
                seen[replied is None, word] = True
                if word != "waits":
                    break
                can = can_come(piece, row)
                self.assertEqual(may_hear(piece, row), in_order([move for move in can if takes(begun, row + [move])]))
                heard.append(rng.choice(can))
        self.assertGreaterEqual(len(seen), 5)

    def test_begun_plays_that_do_not_begin_an_ended_one(self):
        piece = Piece(2, {"x": NUM, "go": DO}, ("if", X, GO, SKIP))
        self.assertIsNone(reply(piece, [ASK, ("call", "go"), ("did", "go")]))
        self.assertEqual(may_hear(piece, [ASK, ("call", "go")]), [])
        self.assertEqual(may_hear(piece=piece, row=(ASK, ("call", "x"))), [("num", "x", 0), ("num", "x", 1)])

    def test_rows_that_are_none(self):
        piece = Piece(2, {"x": NUM}, X)
        told = [[ASK, ("call", "x")], [ASK, ("num", 0)], [ASK, ("break",)]]
        heard = [[ASK], [ASK, ("call", "x"), ("num", "x", 0)]]
        bad = [None, "", [None], [("call", "x")], [ASK, ("call", "y")], [ASK, ASK], [ASK, ("num", True)], {}, ASK]
        for row in told + bad + [[], ()]:
            with self.assertRaises(BadRow):
                reply(piece, row)
        for row in heard + told[1:] + bad:
            with self.assertRaises(BadRow):
                may_hear(piece, row)
        for row in heard:
            self.assertTrue(is_begun(piece, row))
            reply(piece, row)

    def test_errors(self):
        for thing in NO_PIECES:
            for call in (machine_of, lambda told: has_play(told, None), lambda told: plays_up_to(told, -1),
                         lambda told: how_many_plays(told, None), least_play, asked_names,
                         lambda told: reply(told, None), lambda told: may_hear(told, None)):
                with self.assertRaises(BadPiece) as caught:
                    call(thing)
                self.assertIsNone(caught.exception.part)
        for most in (-1, 101, True, None, "3", 2.0):
            with self.assertRaises(BadNumber) as caught:
                plays_up_to(Piece(2, {}, SKIP), most)
            self.assertEqual(caught.exception.part, "most")
        for length in (-1, 1001, False, None, "3", 2.0):
            with self.assertRaises(BadNumber) as caught:
                how_many_plays(Piece(2, {}, SKIP), length)
            self.assertEqual(caught.exception.part, "length")
            with self.assertRaises(BadNumber):
                how_many_plays(too_great({"x": NUM}), length)
            with self.assertRaises(BadNumber):
                plays_up_to(too_great({"x": NUM}), length)
        self.assertEqual(plays_up_to(Piece(2, {}, SKIP), 100), [[ASK, ("do",)]])
        self.assertEqual(plays_up_to(Piece(2, {}, SKIP), 0), [])
        self.assertEqual(how_many_plays(Piece(2, {}, SKIP), 0), 0)


class Wholes(unittest.TestCase):
    """Point 37: outcome, evaluated and the machine, beside one another."""

    def check(self, piece):
        ended = outcome(piece)
        machine = machine_of(piece)
        if ended[0] == "on":
            self.assertEqual(machine, nothing(moves_of(piece)))
        else:
            last = {"num": ("num", ended[1]), "do": ("do",), "broken": ("break",)}[ended[0]]
            self.assertEqual(machine, just(moves_of(piece), [ASK, last]))
        self.assertEqual(evaluated(piece, 20000)[:2], ended)
        return ended[0]

    def test_by_chance(self):
        rng = some(37)
        seen = {}
        for _ in range(1200):
            size = rng.choice((2, 3, 4))
            term = random_term(rng, size, {}, rng.choice(("num", "do")), rng.choice((4, 6, 8)))
            if count_nodes(term) <= 60:
                word = self.check(Piece(size, {}, term))
                seen[word] = seen.get(word, 0) + 1
        self.assertGreater(min(seen[word] for word in ("num", "do", "broken", "on")), 20)

    def test_programs_around(self):
        rng = some(38)
        names = {"x": NUM, "go": DO, "v": BOX}
        for _ in range(60):
            piece = random_piece(rng, 6, size=2, names=names, kind="do")
            functions = {"x": Function(2, {"b": BOX}, (), ("get", name("b"))), "v": Function(2, {"b": BOX}, (), name("b")),
                         "go": Function(2, {"b": BOX}, (), ("set", name("b"), ("not", ("get", name("b")))))}
            around = Around(2, names, "do", (("b", 0),), functions, name("it"))
            self.check(whole_of(piece, around))


if __name__ == "__main__":
    unittest.main()
