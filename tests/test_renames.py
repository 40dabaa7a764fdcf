"""Point 84: plain pieces, renamed ones, and the least renaming."""

import unittest
from itertools import permutations

from meanings import random_names, random_piece
from playsalike.errors import BadPiece, BadWords, TooMany
from playsalike.evaluating import evaluated
from playsalike.pieces import Piece, function_of, made_piece
from playsalike.plays import machine_of, plays_up_to
from playsalike.renames import piece_renaming, plain_piece, renamed_piece
from samples import BOX, DO, NUM, ODD_VALUES, SKIP, leveled, name, number, some, term_parts

X, Y = name("x"), name("y")
WORDS = ("a", "b", "c", "x", "y", "it", "zz", "go", "f", "v", "p")


def shuffled(rng, term, scope=None):
    """The term with its own words exchanged for others by chance, so that all mean what they meant."""
    scope = scope or {}
    if term[0] == "name":
        return ("name", scope.get(term[1], term[1]), tuple(shuffled(rng, part, scope) for part in term[2]))
    things = list(term)
    for path, part in term_parts(term):
        inner = scope
        if path == (3,) and term[0] in ("new", "made"):
            place = 1 if term[0] == "new" else 2
            free = used_within(term[3], (term[place],))
            taken = {scope.get(word, word) for word in free}
            things[place] = rng.choice([word for word in WORDS if word not in taken])
            inner = {**scope, term[place]: things[place]}
        things[path[0]] = shuffled(rng, part, inner)
    return tuple(things)


def used_within(term, own):
    found = {term[1]} - set(own) if term[0] == "name" else set()
    for path, part in term_parts(term):
        inner = own
        if path == (3,) and term[0] in ("new", "made"):
            inner = own + (term[1] if term[0] == "new" else term[2],)
        found |= used_within(part, inner)
    return found


def with_names(one, words):
    """The piece with free words exchanged, if none of its own words are among these."""
    def of(term):
        if term[0] == "name":
            return ("name", words.get(term[1], term[1]), tuple(of(part) for part in term[2]))
        things = list(term)
        for path, part in term_parts(term):
            things[path[0]] = of(part)
        return tuple(things)

    return Piece(one.size, {words[word]: sort for word, sort in one.names.items()}, of(one.term))


class PlainPiece(unittest.TestCase):
    def test_by_hand(self):
        q = name("q")
        one = Piece(2, {"a": NUM}, ("new", "q", 0, ("then", ("set", q, name("a")),
                                                    ("new", "q", 1, ("sum", ("get", q), ("new", "x", 0, ("get", X)))))))
        b, c, d = name("b"), name("c"), name("d")
        wanted = ("new", "b", 0, ("then", ("set", b, name("a")),
                                  ("new", "c", 1, ("sum", ("get", c), ("new", "d", 0, ("get", d))))))
        self.assertEqual(plain_piece(piece=one), Piece(2, {"a": NUM}, wanted))
        made = Piece(2, {"v": BOX}, ("set", ("made", ("new", "n", 0, ("get", name("n"))), "n",
                                             ("new", "m", 1, ("set", name("m"), name("n")))), number(1)))
        a = name("a")
        self.assertEqual(plain_piece(made).term, ("set", ("made", ("new", "a", 0, ("get", a)), "a",
                                                          ("new", "b", 1, ("set", b, a))), number(1)))
        self.assertEqual(plain_piece(Piece(2, {}, SKIP)), Piece(2, {}, SKIP))
        beside = Piece(2, {}, ("sum", ("new", "x", 0, ("get", X)), ("new", "y", 1, ("get", Y))))
        self.assertEqual(plain_piece(beside).term, ("sum", ("new", "a", 0, ("get", a)), ("new", "a", 1, ("get", a))))

    def test_the_same_exactly_if_alike_but_for_own_words(self):
        rng = some(840)
        seen = {True: 0, False: 0}
        for _ in range(150):
            names = random_names(rng, 3)
            one = random_piece(rng, 5, names=names, size=2, kind="num", nodes=4)
            plain = plain_piece(one)
            self.assertEqual(leveled(plain.term), leveled(one.term))
            self.assertEqual((plain.size, plain.names, plain.kind), (one.size, one.names, one.kind))
            self.assertEqual(plain_piece(plain), plain)
            other = Piece(2, names, shuffled(rng, one.term))
            self.assertEqual(plain_piece(other), plain)
            seen[other == one] += 1
            third = random_piece(rng, 2, names=names, size=2, kind="num", nodes=1)
            self.assertEqual(plain_piece(third) == plain, leveled(third.term) == leveled(one.term))
        self.assertGreater(min(seen.values()), 10)

    def test_plays_and_steps(self):
        rng = some(841)
        for _ in range(60):
            one = random_piece(rng, 5, nodes=4)
            self.assertEqual(machine_of(plain_piece(one)), machine_of(one))
            whole = random_piece(rng, 6, nodes=6, names={})
            self.assertEqual(evaluated(plain_piece(whole), 3000), evaluated(whole, 3000))


class RenamedPiece(unittest.TestCase):
    def test_by_hand(self):
        one = Piece(2, {"x": NUM, "y": NUM}, ("new", "q", 0, ("then", ("set", name("q"), X), ("sum", ("get", name("q")),
                                                                                              Y))))
        made = renamed_piece(one, {"x": "a", "y": "x"})
        b = name("b")
        self.assertEqual(made, Piece(2, {"a": NUM, "x": NUM}, ("new", "b", 0, ("then", ("set", b, name("a")),
                                                                               ("sum", ("get", b), X)))))
        self.assertEqual(list(made.names), ["a", "x"])
        self.assertEqual(renamed_piece(piece=one, words={"x": "y", "y": "x"}).term[3][1][2], Y)
        self.assertEqual(renamed_piece(one, {"x": "x", "y": "y"}), plain_piece(one))
        taken = Piece(2, {"x": NUM}, ("new", "a", 0, ("then", ("set", name("a"), X), ("get", name("a")))))
        self.assertEqual(renamed_piece(taken, {"x": "a"}).term, ("new", "b", 0, ("then", ("set", b, name("a")),
                                                                                 ("get", b))))
        self.assertEqual(renamed_piece(Piece(2, {}, SKIP), {}), Piece(2, {}, SKIP))

    def test_plays_are_those_with_words_exchanged(self):
        rng = some(842)
        for _ in range(60):
            names = random_names(rng, 3)
            one = random_piece(rng, 4, names=names, size=2, nodes=3)
            words = dict(zip(names, rng.sample(["f", "g", "x", "a", "b", "zz"], len(names))))
            made = renamed_piece(one, words)
            try:
                rows = plays_up_to(one, 8)
            except TooMany:
                continue
            told = [[tuple(words.get(thing, thing) if at == 1 else thing for at, thing in enumerate(move))
                     for move in row] for row in rows]
            self.assertEqual(sorted(plays_up_to(made, 8), key=str), sorted(told, key=str))

    def test_errors(self):
        one = Piece(2, {"x": NUM, "y": NUM}, X)
        for words in (None, {}, [], "xy", {"x": "a"}, {"x": "a", "y": "a"}, {"x": "a", "y": "b", "z": "c"},
                      {"x": "a", "y": ""}, {"x": "a", "y": "B"},
                      {"x": "a", "y": None}, {"x": "a", "y": ["b"]}, {"x": "a", "y": "abcdefghi"}, {"x": "a", "z": "b"},
                      {1: "a", "y": "b"}, [("x", "a"), ("y", "b")]):
            with self.assertRaises(BadWords):
                renamed_piece(one, words)
        words = {"y": "b", "x": "a"}
        renamed_piece(one, words)
        self.assertEqual(list(words.items()), [("y", "b"), ("x", "a")])


class PieceRenaming(unittest.TestCase):
    def by_trying(self, one, other):
        """The least renaming by trying all, those with words that other has not aside."""
        if len(one.names) != len(other.names):
            return None
        for words in permutations(sorted(other.names)):
            table = dict(zip(sorted(one.names), words))
            if renamed_piece(one, table) == plain_piece(other):
                return table
        return None

    def test_by_hand(self):
        one = Piece(2, {"x": NUM, "y": NUM}, ("sum", X, Y))
        self.assertEqual(piece_renaming(one, Piece(2, {"p": NUM, "q": NUM}, ("sum", name("q"), name("p")))),
                         {"x": "q", "y": "p"})
        self.assertEqual(piece_renaming(one, Piece(2, {"x": NUM, "y": NUM}, ("sum", Y, X))), {"x": "y", "y": "x"})
        self.assertEqual(piece_renaming(piece=one, other=one), {"x": "x", "y": "y"})
        for other in (Piece(2, {"p": NUM, "q": NUM}, ("less", name("q"), name("p"))),
                      Piece(2, {"x": NUM}, ("sum", X, X)), Piece(3, {"x": NUM, "y": NUM}, ("sum", X, Y)),
                      Piece(2, {"x": NUM, "y": DO}, ("sum", X, X)), Piece(2, {"x": NUM, "y": NUM, "z": NUM},
                                                                          ("sum", X, Y)), Piece(2, {"x": NUM, "y": NUM},
                                                                                                SKIP)):
            self.assertIsNone(piece_renaming(one, other))
        # Where names do not stand free there are several: the values of the least are the least list.
        loose = Piece(2, {"x": NUM, "y": NUM, "z": NUM}, Y)
        self.assertEqual(piece_renaming(loose, Piece(2, {"c": NUM, "b": NUM, "a": NUM}, name("b"))),
                         {"x": "a", "y": "b", "z": "c"})
        self.assertEqual(list(piece_renaming(loose, Piece(2, {"c": NUM, "b": NUM, "a": NUM}, name("a"))).items()),
                         [("x", "b"), ("y", "a"), ("z", "c")])
        sorts = Piece(2, {"x": NUM, "y": BOX}, SKIP)
        self.assertEqual(piece_renaming(sorts, Piece(2, {"b": NUM, "a": BOX}, SKIP)), {"x": "b", "y": "a"})

    def test_by_chance(self):
        rng = some(843)
        seen = {True: 0, False: 0}
        for _ in range(150):
            names = random_names(rng, 4)
            one = random_piece(rng, 4, names=names, size=2, nodes=2)
            plain = plain_piece(one)
            if rng.random() < 0.7:
                words = dict(zip(plain.names, rng.sample(["ff", "gg", "xx", "aa", "bb", "zz"], len(names))))
                other = with_names(plain, words)
                other = Piece(2, other.names, shuffled(rng, other.term))
            else:
                other = random_piece(rng, 2, names=names, size=2, nodes=1)
            found = piece_renaming(one, other)
            self.assertEqual(found, self.by_trying(one, other))
            seen[found is None] += 1
            if found is not None:
                self.assertEqual(renamed_piece(one, found), plain_piece(other))
                self.assertEqual(list(found), sorted(found))
        self.assertGreater(min(seen.values()), 25)


class Errors(unittest.TestCase):
    def test_no_pieces(self):
        good = Piece(2, {}, SKIP)
        for thing in ODD_VALUES + [function_of(good)]:
            for call in (plain_piece, lambda one: renamed_piece(one, None), lambda one: piece_renaming(one, good),
                         lambda one: piece_renaming(good, one),
                         lambda one: piece_renaming(one, None)):
                with self.assertRaises(BadPiece) as caught:
                    call(thing)
                self.assertIsNone(caught.exception.part)

    def test_too_many_in_its_sequence(self):
        wide = deep = X
        for _ in range(5):
            wide = ("sum", wide, wide)
        for _ in range(12):
            deep = ("not", deep)
        wide, deep = (made_piece(2, {"x": NUM}, term, "num") for term in (wide, deep))
        good, other = Piece(2, {"x": NUM}, X), Piece(3, {"v": BOX, "go": DO}, SKIP)
        for call, most in ((lambda: plain_piece(wide), 60), (lambda: plain_piece(deep), 12),
                           (lambda: renamed_piece(wide, {"x": "y"}), 60),
                           (lambda: renamed_piece(deep, {"x": "y"}), 12), (lambda: piece_renaming(wide, deep), 60),
                           (lambda: piece_renaming(deep, wide), 12),
                           (lambda: piece_renaming(good, wide), 60), (lambda: piece_renaming(other, deep), 12),
                           (lambda: piece_renaming(deep, other), 12)):
            with self.assertRaises(TooMany) as caught:
                call()
            self.assertEqual(caught.exception.most, most)
        with self.assertRaises(BadWords):
            renamed_piece(wide, {"x": "Y"})
        with self.assertRaises(BadPiece):
            piece_renaming(wide, None)


if __name__ == "__main__":
    unittest.main()
