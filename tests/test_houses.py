"""Points 71 and 72: houses, what can come and what they tell; steps, spots and boxes."""

import unittest

from meanings import Player, can_come, plays_by_player, random_piece
from playsalike.asking import rows_of
from playsalike.errors import BadMove, BadPiece
from playsalike.evaluating import evaluated
from playsalike.houses import House
from playsalike.letters import in_order
from playsalike.outcomes import outcome
from playsalike.pieces import Function, Piece
from playsalike.places import part_at, places
from playsalike.plays import machine_of
from samples import BOX, DO, NUM, ODD_VALUES, SKIP, count_nodes, name, number, random_term, some

ASK = ("ask",)
X, V, GO = name("x"), name("v"), name("go")
EXAMPLE = Piece(2, {"f": (("num",), "num")}, ("sum", name("f", number(1)), number(1)))


def heard(piece, *moves):
    """The house that has heard ask and these moves."""
    house = House(piece)
    for move in (ASK,) + moves:
        house.hear(move)
    return house


def state(house):
    return (house.piece, house.moves, house.word, house.can_hear(), house.steps(), house.spots(), house.boxes())


class Houses(unittest.TestCase):
    def test_a_new_house(self):
        house = House(piece=EXAMPLE)
        self.assertEqual(state(house), (EXAMPLE, (), "new", [ASK], 0, [], {}))
        self.assertIs(house.piece, EXAMPLE)

    def test_by_hand(self):
        house = House(EXAMPLE)
        self.assertEqual(house.hear(move=ASK), ("call", "f"))
        self.assertEqual((house.word, house.spots(), house.steps()), ("waits", [(1,)], 2))
        self.assertEqual(house.can_hear(), [("ask", "f", 0), ("num", "f", 0), ("num", "f", 1)])
        self.assertEqual(house.hear(("ask", "f", 0)), ("num", "f", 0, 1))
        self.assertEqual(house.can_hear(), [("ask", "f", 0), ("num", "f", 0), ("num", "f", 1)])
        self.assertEqual(house.hear(("num", "f", 1)), ("num", 0))
        self.assertEqual((house.word, house.steps(), house.spots(), house.boxes()), ("ended", 4, [], {}))
        self.assertEqual(house.moves, (ASK, ("call", "f"), ("ask", "f", 0), ("num", "f", 0, 1), ("num", "f", 1),
                                       ("num", 0)))
        self.assertEqual(house.can_hear(), [])

    def test_what_can_come(self):
        piece = Piece(2, {"f": (("num", "do", "box"), "num"), "v": BOX, "go": DO}, ("sum", (
            "then", ("set", V, ("get", V)), name("f", number(0), GO, V)), number(0)))
        house = heard(piece)
        self.assertEqual(house.can_hear(), [("value", "v", 0), ("value", "v", 1)])
        self.assertEqual(house.hear(("value", "v", 1)), ("set", "v", 1))
        self.assertEqual(house.can_hear(), [("kept", "v")])
        self.assertEqual(house.hear(("kept", "v")), ("call", "f"))
        args = [("ask", "f", 0), ("ask", "f", 1), ("get", "f", 2), ("num", "f", 0), ("num", "f", 1),
                ("set", "f", 2, 0), ("set", "f", 2, 1)]
        self.assertEqual(house.can_hear(), args)
        self.assertEqual(house.hear(("ask", "f", 1)), ("call", "go"))
        self.assertEqual(house.can_hear(), [("did", "go")])
        self.assertEqual(house.hear(("did", "go")), ("did", "f", 1))
        self.assertEqual(house.can_hear(), args)
        self.assertEqual(house.hear(("set", "f", 2, 0)), ("set", "v", 0))
        self.assertEqual(house.hear(("kept", "v")), ("kept", "f", 2))
        self.assertEqual(house.hear(("get", "f", 2)), ("get", "v"))
        self.assertEqual(house.hear(("value", "v", 1)), ("value", "f", 2, 1))

    def test_boxes_within_arguments(self):
        use = name("f", name("b"), ("then", ("set", name("b"), ("sum", ("get", name("b")), number(1))), ("get", name("b"))))
        piece = Piece(3, {"f": (("box", "num"), "do")}, ("new", "b", 1, ("then", use, ("get", name("b")))))
        house = heard(piece)
        self.assertEqual(house.boxes(), {(): 1})
        self.assertEqual(house.hear(("ask", "f", 1)), ("num", "f", 1, 2))
        self.assertEqual(house.hear(("ask", "f", 1)), ("num", "f", 1, 0))
        self.assertEqual(house.hear(("get", "f", 0)), ("value", "f", 0, 0))
        self.assertEqual(house.hear(("set", "f", 0, 2)), ("kept", "f", 0))
        self.assertEqual(house.boxes(), {(): 2})
        self.assertEqual(house.hear(("did", "f")), ("num", 2))
        self.assertEqual(house.boxes(), {})

    def test_made_boxes(self):
        made = ("made", X, "w", ("set", V, ("sum", name("w"), number(1))))
        piece = Piece(3, {"f": (("box",), "do"), "x": NUM, "v": BOX}, name("f", made))
        house = heard(piece)
        self.assertEqual(house.hear(("set", "f", 0, 2)), ("set", "v", 0))
        self.assertEqual(house.spots(), [(), (2, 0, 3, 1)])
        self.assertEqual(house.hear(("kept", "v")), ("kept", "f", 0))
        self.assertEqual(house.hear(("get", "f", 0)), ("call", "x"))
        self.assertEqual(house.spots(), [(), (2, 0, 1)])
        self.assertEqual(house.hear(("num", "x", 2)), ("value", "f", 0, 2))

    def test_boxes_are_told_by_places_in_order(self):
        inner = ("new", "c", 0, ("then", ("set", name("c"), number(1)), ("then", GO, ("get", name("c")))))
        term = ("new", "b", 1, ("sum", ("new", "c", 1, ("get", name("c"))), ("then", GO, inner)))
        house = heard(Piece(2, {"go": DO}, term))
        self.assertEqual(list(house.boxes().items()), [((), 1)])
        house.hear(("did", "go"))
        self.assertEqual(list(house.boxes().items()), [((), 1), ((3, 2, 2), 1)])
        house.boxes()[()] = 0
        self.assertEqual(house.boxes()[()], 1)
        house.hear(("did", "go"))
        self.assertEqual(house.boxes(), {})

    def test_steps(self):
        piece = Piece(2, {"f": (("box",), "num"), "v": BOX}, ("sum", name("f", V), ("get", V)))
        house = heard(piece)
        self.assertEqual(house.steps(), 2)          # the sum, the use
        house.hear(("get", "f", 0))
        self.assertEqual(house.steps(), 3)          # the box, read
        house.hear(("value", "v", 0))
        self.assertEqual(house.steps(), 3)
        house.hear(("set", "f", 0, 1))
        self.assertEqual(house.steps(), 4)          # the box, written
        house.hear(("kept", "v"))
        house.hear(("num", "f", 0))
        self.assertEqual(house.steps(), 6)          # get and its box
        self.assertEqual(house.spots(), [(2, 1)])

    def test_lost(self):
        for term in (("never", "do"), ("while", number(1), SKIP),
                     ("new", "b", 0, ("while", number(1), ("set", name("b"), ("not", ("get", name("b"))))))):
            house = House(Piece(2, {"x": NUM}, ("then", ("if", X, SKIP, SKIP), term)))
            house.hear(ASK)
            self.assertIsNone(house.hear(("num", "x", 0)))
            self.assertEqual(state(house)[1:], ((ASK, ("call", "x"), ("num", "x", 0)), "lost", [], None, [], {}))
            with self.assertRaises(BadMove):
                house.hear(("num", "x", 0))

    def test_broken(self):
        house = heard(Piece(2, {"f": (("do",), "do")}, name("f", ("claim", number(0)))), ("ask", "f", 0))
        self.assertEqual((house.word, house.moves[-1], house.can_hear(), house.spots(), house.boxes(), house.steps()),
                         ("broken", ("break",), [], [], {}, 3))

    def test_other_moves_are_refused_and_change_nothing(self):
        rng = some(71)
        for _ in range(150):
            piece = random_piece(rng, 5)
            house = House(piece)
            every = [ASK, ("break",), ("do",), ("num", 0), ("did", "f"), ("num", "f", True), ["ask"], ("num", "x", 9)]
            every += [move for at in (0, 1) for word in ("f", "x", "v") for move in (
                ("ask", word, at), ("get", word, at), ("set", word, at, 0), ("value", word, at), ("kept", word),
                ("num", word, at), ("ask", word, at == 1))] + ODD_VALUES
            for _ in range(6):
                before = state(house)
                for move in every:
                    if not any(move == one and list(map(type, move)) == list(map(type, one)) for one in before[3]):
                        with self.assertRaises(BadMove):
                            house.hear(move)
                self.assertEqual(state(house), before)
                if house.word != "waits" and house.word != "new":
                    break
                house.hear(rng.choice(house.can_hear()))

    def test_against_a_player(self):
        rng = some(72)
        seen = {}
        for _ in range(700):
            piece = random_piece(rng, rng.choice((4, 5, 6, 7)))
            house, said = House(piece), []
            for _ in range(rng.randint(1, 12)):
                move = rng.choice(house.can_hear())
                said.append(move)
                told = house.hear(move)
                word, row, steps = Player(piece, said).played()
                self.assertEqual((house.word, list(house.moves), house.steps()), (word, row, steps))
                self.assertEqual(told, None if word == "lost" else row[-1])
                seen[word] = seen.get(word, 0) + 1
                if word != "waits":
                    break
                self.assertEqual(house.can_hear(), in_order(can_come(piece, row)))
                self.check_spots(house)
        self.assertGreater(min(seen[word] for word in ("waits", "ended", "broken", "lost")), 40)

    def check_spots(self, house):
        """The spots are those of the questions that wait, and boxes stand at new nodes around."""
        waits = []
        for move in house.moves:
            if move[0] in ("call", "get", "set") and (len(move) == 2 or move[0] == "set" and len(move) == 3):
                waits.append(move)
            elif move[0] in ("num", "did", "value", "kept") and isinstance(move[1], str) and (
                    len(move) == 2 + (move[0] in ("num", "value"))):
                waits.pop()
        spots = house.spots()
        every = places(house.piece)
        self.assertEqual([part_at(house.piece, at)[1] for at in spots], [move[1] for move in waits])
        for outer, inner in zip(spots, spots[1:]):
            self.assertEqual(inner[:len(outer)], outer)
        around = [at for at in every if part_at(house.piece, at)[0] == "new" and spots[-1][:len(at)] == at]
        self.assertEqual(list(house.boxes()), around)

    def test_twins_go_on_by_themselves(self):
        rng = some(73)
        for _ in range(150):
            house = House(random_piece(rng, 6))
            for _ in range(rng.randint(0, 5)):
                if house.can_hear():
                    house.hear(rng.choice(house.can_hear()))
            twin = house.twin()
            before = state(house)
            self.assertIs(type(twin), House)
            self.assertEqual(state(twin), before)
            while twin.can_hear() and len(twin.moves) < 16:
                twin.hear(rng.choice(twin.can_hear()))
            self.assertEqual(state(house), before)
            again = house.twin()
            for move in twin.moves[len(house.moves)::2]:
                again.hear(move)
            self.assertEqual(state(again), state(twin))

    def test_just_the_rows_of_the_machine(self):
        rng = some(74)
        for _ in range(150):
            piece = random_piece(rng, 6, most=2)
            found, houses = set(), [House(piece)]
            for _ in range(4):
                behind = []
                for house in houses:
                    for move in house.can_hear():
                        twin = house.twin()
                        twin.hear(move)
                        behind.append(twin)
                found |= {house.moves for house in behind if house.word in ("ended", "broken")}
                houses = behind
            self.assertEqual(found, {tuple(row) for row in rows_of(machine_of(piece), 8)})
            self.assertEqual(found, plays_by_player(piece, 8))

    def test_whole_pieces_as_evaluated(self):
        rng = some(75)
        seen = {}
        for _ in range(900):
            size = rng.choice((2, 3, 4))
            term = random_term(rng, size, {}, rng.choice(("num", "do")), rng.choice((4, 6, 8)))
            if count_nodes(term) > 60:
                continue
            piece = Piece(size, {}, term)
            house = House(piece)
            told = house.hear(ASK)
            word, worth, steps = evaluated(piece, 20000)
            seen[word] = True
            if word == "on":
                self.assertEqual((house.word, told, house.steps(), outcome(piece)), ("lost", None, None, ("on", 0)))
            else:
                self.assertEqual(told, {"num": ("num", worth), "do": ("do",), "broken": ("break",)}[word])
                self.assertEqual((house.word, house.steps()), ("broken" if word == "broken" else "ended", steps))
        self.assertEqual(len(seen), 4)

    def test_errors(self):
        for thing in ODD_VALUES + [Function(2, {}, (), SKIP)]:
            with self.assertRaises(BadPiece) as caught:
                House(thing)
            self.assertIsNone(caught.exception.part)


if __name__ == "__main__":
    unittest.main()
