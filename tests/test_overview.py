"""Points 2 to 5: what holds over the whole program."""

import copy
import inspect
import unittest
from importlib import import_module

from meanings import random_names, random_piece
from playsalike.alike import same
from playsalike.arounds import ended_around
from playsalike.asking import first_row
from playsalike.benches import Bench
from playsalike.books import Book
from playsalike.breakers import breaker
from playsalike.claims import claims_in, is_safe, least_break
from playsalike.couples import Couple
from playsalike.desk import Desk
from playsalike.errors import BadPiece, PlayError
from playsalike.evaluating import evaluated
from playsalike.houselogs import log_of, read_log
from playsalike.houses import House
from playsalike.machines import Machine, takes
from playsalike.optimising import optimised, shortening
from playsalike.outcomes import outcome
from playsalike.parters import parter
from playsalike.pieces import Function, Piece, function_of, put
from playsalike.playing import is_play
from playsalike.plays import has_play, machine_of, plays_up_to
from playsalike.playwrights import around_of
from playsalike.rules import Rule
from playsalike.scribes import Scribe
from playsalike.soles import sole_piece
from samples import BOX, DO, NUM, ODD_VALUES, SKIP, name, number, some
from surroundings import random_play
from test_interface import CALLS
from workbenches import FIRST, ONE, SAME

X, GO = name("x"), name("go")
PLENTY = 10 ** 5


class Promises(unittest.TestCase):
    def test_a_one_least_machine(self):
        rng = some(20)
        seen = {}
        for _ in range(150):
            whole = random_piece(rng, 6, names={}, nodes=5)
            machine = machine_of(whole)
            word, n, _ = evaluated(whole, 20000)
            for k in range(whole.size):
                self.assertEqual(takes(machine, [("ask",), ("num", k)]), (word, n) == ("num", k))
            self.assertEqual(takes(machine, [("ask",), ("break",)]), word == "broken")
            self.assertEqual(first_row(machine) is None, word == "on")
            self.assertEqual(outcome(whole), (word, n))
            self.assertEqual(Machine(machine.letters, machine.ways, machine.ends), machine)
            seen[word] = seen.get(word, 0) + 1
        self.assertEqual(len(seen), 4)

    def test_b_the_same_exactly_if_the_machines_are_equal(self):
        rng = some(21)
        for _ in range(100):
            names = random_names(rng, 2)
            one, other = (random_piece(rng, 4, names=names, size=2, kind="do", nodes=2) for _ in range(2))
            self.assertEqual(same(one, other), machine_of(one) == machine_of(other))
            found = parter(one, other)
            self.assertEqual(found is None, same(one, other))
            if found is not None:
                words = [ended_around(each, found[0], PLENTY)[0] for each in (one, other)]
                self.assertIn(words[found[1]], ("do", "broken"))
                self.assertNotEqual(words[0], words[1])

    def test_c_each_play_has_its_program_and_its_piece(self):
        rng = some(22)
        for _ in range(40):
            piece = Piece(2, random_names(rng, 3), SKIP)
            play = random_play(rng, piece, 16)
            self.assertTrue(is_play(piece, play))
            sole = sole_piece(piece, play)
            self.assertTrue(has_play(sole, play))
            self.assertEqual(ended_around(sole, around_of(piece, play), PLENTY)[0], "do")
            other = random_play(rng, piece, 16)
            self.assertEqual(ended_around(sole, around_of(piece, other), PLENTY)[0] == "do", other == play)

    def test_d_claims(self):
        rng = some(23)
        for _ in range(100):
            one = random_piece(rng, 5, size=2, nodes=4, most=2)
            around = breaker(one)
            self.assertEqual(around is None, is_safe(one))
            if around is not None:
                self.assertEqual(ended_around(one, around, PLENTY)[0], "broken")
                self.assertTrue(claims_in(one) and has_play(one, least_break(one)))

    def test_e_the_optimiser(self):
        rng = some(24)
        for _ in range(30):
            one = random_piece(rng, 5, size=2, nodes=5, most=2)
            made, steps = optimised(one)
            self.assertTrue(same(made, one))
            self.assertIsNone(shortening(made))
            self.assertEqual(made == one, steps == [])

    def test_f_pieces_played_by_moves_and_their_logs(self):
        rng = some(25)
        for _ in range(60):
            whole = random_piece(rng, 6, names={}, nodes=4)
            house = House(whole)
            house.hear(("ask",))
            word = evaluated(whole, 20000)[0]
            self.assertEqual(house.word, {"num": "ended", "do": "ended", "on": "lost"}.get(word, word))
            piece = random_piece(rng, 4, nodes=3)
            house = House(piece)
            while house.can_hear() and len(house.moves) < 12:
                house.hear(rng.choice(house.can_hear()))
            log = log_of(house)
            for end in range(len(log) + 1):
                told = read_log(piece, log[:end])
                self.assertNotEqual(told[2], "strange")
                self.assertEqual(told[0].moves, house.moves[:len(told[0].moves)])


def given_values():
    """Right values for the parameters of functions that take a piece first."""
    names = {"x": NUM, "v": BOX}
    return {
        "piece": Piece(2, names, ("then", ("claim", X), X)), "other": Piece(2, names, X), "word": "x",
        "function": Function(2, {}, (), number(1)), "around": None, "steps": 10, "thing": [("ask",)], "at": (), "most": 4,
        "length": 4, "row": [("ask",)], "term": X, "givings": {"x": Function(2, {}, (), number(1)), "v": 0}, "digits": [0],
        "places": [(1,)], "place": (1,), "number": 0, "boxes": ("v",), "starts": [(0,)], "wanted": [(0,)], "nodes": 2,
        "rules": [], "words": {"x": "a", "v": "b"}, "text": "ask", "play": [("ask",), ("num", 0)],
    }


class Conventions(unittest.TestCase):
    def calls(self):
        """All functions of the interface that want a piece first, and the names of their parameters."""
        for module, lines in CALLS.items():
            for line in lines:
                call = getattr(import_module("playsalike." + module), line.split("(")[0])
                words = list(inspect.signature(call).parameters)
                if words[:1] == ["piece"]:
                    yield line, call, words

    def test_no_piece_is_told_ahead_of_all_others(self):
        seen = 0
        for line, call, words in self.calls():
            for thing in ODD_VALUES + [Function(2, {}, (), SKIP), House(Piece(2, {}, SKIP))]:
                with self.assertRaises(BadPiece, msg=line) as caught:
                    call(**{word: thing if word == "piece" else None for word in words})
                self.assertIsNone(caught.exception.part, line)
            seen += 1
        self.assertGreater(seen, 65)

    def test_what_is_handed_in_is_not_changed_and_what_is_told_is_new(self):
        tried = 0
        for line, call, words in self.calls():
            values = {word: thing for word, thing in given_values().items() if word in words}
            if line.startswith(("put", "safe_with", "composed")) and "other" in words:
                values["other"] = given_values()["function"]
            held = copy.deepcopy(values)
            try:
                first = call(**values)
            except PlayError:
                continue
            self.assertEqual(values, held, line)
            wanted = copy.deepcopy(first)
            if isinstance(first, (list, dict)):
                first.clear()
            again = call(**values)
            if not isinstance(again, House):
                self.assertEqual(again, wanted, line)
            tried += 1
        self.assertGreater(tried, 55)

    def test_true_is_not_1(self):
        piece = Piece(2, {"x": NUM}, X)
        for call in (lambda: Piece(True, {}, SKIP), lambda: Piece(2, {}, ("number", True)), lambda: evaluated(Piece(2, {}, SKIP), True),
                     lambda: plays_up_to(piece, True), lambda: House(piece).hear(("num", True)), lambda: Book(True, ()),
                     lambda: Scribe(piece, [False]), lambda: around_of(piece, [("ask",), ("num", True)])):
            with self.assertRaises(PlayError):
                call()
        self.assertFalse(has_play(Piece(2, {}, number(1)), [("ask",), ("num", True)]))
        self.assertFalse(is_play(piece, [("ask",), ("num", False)]))

    def test_lists_and_tuples(self):
        piece = Piece(2, {"x": NUM}, X)
        play = [("ask",), ("call", "x"), ("num", "x", 1), ("num", 1)]
        self.assertTrue(has_play(piece, play) and has_play(piece, tuple(play)))
        self.assertFalse(has_play(piece, [list(move) for move in play]))
        self.assertEqual(around_of(piece, play), around_of(piece, tuple(play)))
        self.assertEqual(machine_of(sole_piece(piece, tuple(play))), machine_of(sole_piece(piece, play)))
        for call in (lambda: Piece(2, {"x": [(), "num"]}, SKIP), lambda: Piece(2, {}, ["skip"]), lambda: Book(2, [])):
            with self.assertRaises(PlayError):
                call()

    def test_objects_are_equal_to_no_value_of_another_kind(self):
        piece = Piece(2, {"x": NUM}, X)
        function, bench = function_of(piece), Bench(FIRST)
        things = [piece, function, Rule(piece, piece), FIRST, bench, machine_of(piece), around_of(piece, [("ask",), ("num", 0)]),
                  House(piece), Couple(piece, {}), Scribe(piece, []), Desk(FIRST)]
        for at, one in enumerate(things):
            for other in things[:at] + things[at + 1:] + ODD_VALUES:
                self.assertFalse(one == other)
                self.assertTrue(one != other)
        self.assertEqual((ONE.kind, SAME[0], GO[0]), (NUM, "same", "name"))


class Limits(unittest.TestCase):
    def test_great_pieces_made_by_put(self):
        # Deeper than calls within calls can be: what their machines tell is the same as of small ones.
        one = Piece(2, {"x": NUM, "go": DO}, ("then", GO, ("not", ("not", X))))
        great = one
        for _ in range(9):
            great = put(great, "x", Function(2, one.names, (), ("then", ("while", number(0), GO), ("not", ("not", X)))))
        for _ in range(8):
            great = put(great, "x", function_of(Piece(2, great.names, ("not", ("not", X)))))
        self.assertTrue(same(one, great))
        for _ in range(6):
            great = put(great, "go", Function(2, one.names, (), ("then", GO, SKIP)))
        self.assertTrue(same(great, one) and is_safe(great))
        self.assertIsNone(parter(one, great))
        self.assertEqual(plays_up_to(one, 8), plays_up_to(great, 8))
        deep = Piece(2, {"x": NUM}, ("not", ("not", X)))
        for _ in range(9):
            deep = put(deep, "x", function_of(deep))
        self.assertTrue(same(deep, Piece(2, {"x": NUM}, X)))
        around, which = parter(deep, Piece(2, {"x": NUM}, ("not", X)))
        self.assertEqual(ended_around(deep, around, PLENTY)[0], "do" if which == 0 else "on")


if __name__ == "__main__":
    unittest.main()
