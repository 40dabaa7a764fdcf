"""Point 62: claims assumed, claims dropped, and which ones can break."""

import unittest
from itertools import combinations

from meanings import Player, can_come, random_piece
from playsalike.alike import same
from playsalike.assuming import assumed, breaking_places, claims_dropped, first_break
from playsalike.claims import claims_in, least_break
from playsalike.errors import BadPiece, BadPlaces, TooMany
from playsalike.pieces import Function, Piece, made_piece
from playsalike.places import part_at
from playsalike.plays import machine_of, plays_up_to
from samples import BOX, DO, NUM, ODD_VALUES, SKIP, Broken, count_nodes, name, number, some

ASK, BREAK = ("ask",), ("break",)
X, B = name("x"), name("b")


def piece(term, names=None, size=2):
    return Piece(size, names or {"x": NUM, "f": (("do", "num"), "do")}, term)


def choice(test, otherwise):
    return ("if", test, SKIP, otherwise)


def changed(term, places, otherwise, at=()):
    """The term with the claims at these places exchanged, made a second way."""
    if term[0] == "name":
        return term[:2] + (tuple(changed(part, places, otherwise, at + (2, i)) for i, part in enumerate(term[2])),)
    parts = tuple(changed(part, places, otherwise, at + (i,)) if isinstance(part, tuple) else part
                  for i, part in enumerate(term))
    return choice(parts[1], otherwise) if at in places else parts


class Breaking(Player):
    """A player that knows at which claim it breaks; claims are told apart by their terms."""

    def of(self, term, env):
        try:
            return super().of(term, env)
        except Broken:
            if term[0] == "claim" and not hasattr(self, "broken"):
                self.broken = term
            raise


def lots(places):
    return [list(lot) for many in range(len(places) + 1) for lot in combinations(places, many)]


def claimed(rng, most=4):
    """A piece with 1 to 4 claims."""
    while True:
        found = random_piece(rng, rng.choice((5, 6)), most=2, nodes=5)
        if 0 < len(claims_in(found)) <= most and count_nodes(found.term) <= 44:
            return found


class Assuming(unittest.TestCase):
    def test_by_hand(self):
        term = ("then", ("claim", X), name("f", ("claim", ("then", ("claim", ("not", X)), X)), X))
        told = piece(term)
        never = ("never", "do")
        self.assertEqual(assumed(told, [(1,)]).term, ("then", choice(X, never), term[2]))
        inner = choice(("not", X), never)
        self.assertEqual(assumed(told, [(2, 2, 0, 1, 1)]).term, (
            "then", ("claim", X), name("f", ("claim", ("then", inner, X)), X)))
        both = ("then", ("claim", X), name("f", choice(("then", inner, X), never), X))
        self.assertEqual(assumed(told, [(2, 2, 0), (2, 2, 0, 1, 1)]).term, both)
        self.assertEqual(assumed(piece=told, places=((2, 2, 0, 1, 1), (2, 2, 0))).term, both)
        self.assertEqual(assumed(told, []), told)
        self.assertEqual(claims_dropped(piece=told, places=[(1,)]).term, ("then", choice(X, SKIP), term[2]))
        self.assertEqual(assumed(Piece(2, {}, ("claim", number(1))), [()]).term, choice(number(1), never))
        self.assertEqual((assumed(told, [(1,)]).size, assumed(told, [(1,)]).names, assumed(told, [(1,)]).kind),
                         (2, told.names, "do"))

    def test_first_break_by_hand(self):
        told = piece(("then", ("claim", X), ("claim", X)), {"x": NUM})
        asks = (("call", "x"), ("num", "x", 0))
        self.assertEqual(first_break(piece=told, place=(1,)), (ASK, *asks, BREAK))
        self.assertEqual(first_break(told, (2,)), (ASK, ("call", "x"), ("num", "x", 1), *asks, BREAK))
        self.assertEqual(breaking_places(piece=told), [(1,), (2,)])
        kept = ("new", "b", 0, ("then", ("set", B, X), ("then", ("claim", ("get", B)), ("claim", ("get", B)))))
        told = piece(kept, {"x": NUM})
        self.assertEqual(breaking_places(told), [(3, 2, 1)])
        self.assertIsNone(first_break(told, (3, 2, 2)))
        self.assertEqual(breaking_places(piece(SKIP)), [])
        loop = piece(("while", number(1), ("then", ("claim", number(1)), ("claim", X))), {"x": NUM})
        self.assertEqual(breaking_places(loop), [(2, 2)])
        args = piece(name("f", ("claim", X), ("then", ("claim", ("not", X)), X)))
        self.assertEqual(first_break(args, (2, 0)), (ASK, ("call", "f"), ("ask", "f", 0), *asks, BREAK))
        self.assertEqual(first_break(args, (2, 1, 1)), (
            ASK, ("call", "f"), ("ask", "f", 1), ("call", "x"), ("num", "x", 1), BREAK))

    def test_each_lot(self):
        rng = some(62)
        seen = {True: 0, False: 0}
        for _ in range(120):
            told = claimed(rng)
            places = claims_in(told)
            breaking = breaking_places(told)
            self.assertEqual(breaking, [at for at in places if first_break(told, at) is not None])
            for lot in lots(places):
                rng.shuffle(lot)
                found = assumed(told, lot)
                self.assertEqual(found.term, changed(told.term, lot, ("never", "do")))
                dropped = claims_dropped(told, lot)
                self.assertEqual(dropped.term, changed(told.term, lot, SKIP))
                holds = not any(at in breaking for at in lot)
                self.assertEqual(same(told, found), holds)
                if holds:
                    self.assertTrue(same(told, dropped))
                seen[holds] += 1
        self.assertGreater(min(seen.values()), 40)

    def test_unbroken_plays(self):
        rng = some(63)
        for _ in range(120):
            told = claimed(rng)
            without = assumed(told, claims_in(told))
            try:
                rows = plays_up_to(told, 10)
            except TooMany:
                continue
            self.assertEqual([row for row in rows if row[-1] != BREAK], plays_up_to(without, 10))
            self.assertIsNone(least_break(without))

    def test_which_claim_breaks(self):
        rng = some(64)
        tried = 0
        for _ in range(250):
            told = claimed(rng)
            places = claims_in(told)
            terms = [part_at(told, at) for at in places]
            if any(terms.count(term) > 1 for term in terms):
                continue
            wanted = self.breaks_by_player(told, 8)
            for at, term in zip(places, terms):
                found = first_break(told, at)
                rows = [row for row, broken in wanted if broken == term]
                if found is not None and len(found) <= 8:
                    self.assertIn(found, rows)
                    self.assertEqual(len(found), min(map(len, rows)))
                else:
                    self.assertEqual(rows, [])
                tried += 1
        self.assertGreater(tried, 150)

    def breaks_by_player(self, told, most):
        found, heard = [], [[ASK]]
        while heard:
            ahead = heard.pop()
            player = Breaking(told, ahead)
            word, row, _ = player.played()
            if word == "broken":
                found.append((tuple(row), player.broken))
            if word == "waits" and len(row) + 2 <= most:
                heard += [ahead + [move] for move in can_come(told, row)]
        return found

    def wide(self, many):
        """A do of so many claims of x, as shallow as can be."""
        if many == 1:
            return ("claim", X)
        return ("then", self.wide(many // 2), self.wide(many - many // 2))

    def test_limits(self):
        told = Piece(2, {"x": NUM}, self.wide(12))
        places = claims_in(told)
        self.assertEqual((len(places), count_nodes(told.term)), (12, 35))
        self.assertEqual(count_nodes(assumed(told, places).term), 59)
        self.assertIsNotNone(first_break(told, places[0]))
        great = Piece(2, {"x": NUM}, ("then", SKIP, self.wide(13)))
        places = claims_in(great)
        for call in (assumed, claims_dropped):
            self.assertEqual(count_nodes(call(great, places[:10]).term), 60)
            with self.assertRaises(TooMany) as caught:
                call(great, places[:11])
            self.assertEqual(caught.exception.most, 60)
        for call in (lambda: first_break(great, places[0]), lambda: breaking_places(great)):
            with self.assertRaises(TooMany) as caught:
                call()
            self.assertEqual(caught.exception.most, 60)
        deep = SKIP
        for _ in range(12):
            deep = ("then", SKIP, deep)
        with self.assertRaises(TooMany) as caught:
            assumed(made_piece(2, {}, deep, "do"), [])
        self.assertEqual(caught.exception.most, 12)

    def test_machines_that_are_too_great(self):
        names = {word: (("box", "box", "box"), "do") for word in "fg"}
        uses = [name("f", *map(name, "abc")), name("g", *map(name, "deh")), name("f", *map(name, "abc"))]
        term = ("then", uses[0], ("then", uses[1], ("then", uses[2], ("claim", X))))
        for word in "abcdeh":
            term = ("new", word, 0, term)
        told = Piece(4, {**names, "x": NUM}, term)
        with self.assertRaises(TooMany):
            machine_of(told)
        for call in (lambda: first_break(told, claims_in(told)[0]), lambda: breaking_places(told)):
            with self.assertRaises(TooMany) as caught:
                call()
            self.assertEqual(caught.exception.most, 2000)
        self.assertEqual(assumed(told, claims_in(told)).kind, "do")

    def test_errors(self):
        told = piece(("then", ("claim", X), SKIP), {"x": NUM, "v": BOX})
        for thing in ODD_VALUES + [Function(2, {}, (), SKIP)]:
            for call in (lambda: assumed(thing, None), lambda: claims_dropped(thing, None),
                         lambda: first_break(thing, None), lambda: breaking_places(thing)):
                with self.assertRaises(BadPiece) as caught:
                    call()
                self.assertIsNone(caught.exception.part)
        wrong = [(), (2,), (1, 1), (5,), (True,), [1], None, "a", 1, (1.0,), ((1,),), (-1,)]
        for place in wrong:
            with self.assertRaises(BadPlaces):
                first_break(told, place)
            for call in (assumed, claims_dropped):
                for places in ([place], [(1,), place]):
                    with self.assertRaises(BadPlaces):
                        call(told, places)
        for call in (assumed, claims_dropped):
            for places in (None, [(1,), (1,)], (1,), {(1,): 1}, "a", {}, 3):
                with self.assertRaises(BadPlaces):
                    call(told, places)
        with self.assertRaises(BadPlaces):
            first_break(Piece(2, {"go": DO}, SKIP), ())


if __name__ == "__main__":
    unittest.main()
