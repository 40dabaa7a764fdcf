"""Point 25: letters left out, let in, kept, exchanged, and rows in their places."""

import unittest
from itertools import product

from languages import ALL, A, B, C, D, accepts, all_rows_of, check_least, counting, random_machine, rows
from playsalike.errors import BadLetter, BadLetters, BadMachine, BadNames, TooMany
from playsalike.joins import both, joined
from playsalike.leaving import kept_by, left_out, let_in, put_for, relettered
from playsalike.letters import in_order
from playsalike.machines import Machine, widened
from playsalike.makers import all_rows, empty, just, nothing, one_of
from samples import ODD_VALUES, some

E = ("e", "e")
WRONG_LETTERS = [None, "a", A, [["a"]], [A, None], {A: 1}, 5, [("a", True)], [()]]


def standings(machine, start, letters):
    """All states that rows of these letters lead to from the states of start."""
    found, waiting = set(start), list(start)
    while waiting:
        for k, goal in machine.ways[waiting.pop()]:
            if machine.letters[k] in letters and goal not in found:
                found.add(goal)
                waiting.append(goal)
    return found


def leaves(machine, gone, row):
    """Whether the row is one of machine with the letters of gone left out."""
    now = standings(machine, {0}, gone)
    for letter in row:
        now = {goal for state in now for k, goal in machine.ways[state]
               if machine.letters[k] == letter and letter not in gone}
        now = standings(machine, now, gone)
    return any(state in machine.ends for state in now)


def exchanges(machine, names, row):
    """Whether the row comes of one of machine when letters are exchanged."""
    now = {0}
    for letter in row:
        now = {goal for state in now for k, goal in machine.ways[state]
               if names.get(machine.letters[k], machine.letters[k]) == letter}
    return any(state in machine.ends for state in now)


def stands(machine, letter, other, row):
    """Whether the row is one of machine with rows of other in the place of letter."""
    seen, waiting = {(0, 0)}, [(0, 0)]
    while waiting:
        state, at = waiting.pop()
        for k, goal in machine.ways[state]:
            if machine.letters[k] == letter:
                found = [(goal, end) for end in range(at, len(row) + 1) if accepts(other, row[at:end])]
            else:
                found = [(goal, at + 1)] if at < len(row) and row[at] == machine.letters[k] else []
            waiting += [one for one in found if one not in seen]
            seen.update(found)
    return any((end, len(row)) in seen for end in machine.ends)


class Leaving(unittest.TestCase):
    def check_rows(self, made, letters, most, is_taken):
        self.assertEqual(made.letters, tuple(in_order(letters)))
        check_least(self, made)
        for row in all_rows_of(made.letters, most):
            self.assertEqual(accepts(made, row), is_taken(row), row)

    def test_left_out(self):
        rng = some(26)
        for _ in range(200):
            machine = random_machine(rng, 4)
            gone = rng.sample(ALL + (E,), rng.randint(0, 3))
            made = left_out(machine, gone)
            self.check_rows(made, [one for one in machine.letters if one not in gone], 4,
                            lambda row: leaves(machine, gone, row))
        machine = Machine([A, B], [[(0, 1)], [(0, 1), (1, 0)]], [0, 1])
        made = left_out(machine=machine, letters=[B, B])
        self.assertEqual((made.letters, made.ways, made.ends), ((A,), (((0, 0),),), (0,)))
        self.assertEqual(left_out(machine, [C]), machine)
        self.assertEqual(left_out(machine, []), machine)
        self.assertEqual(left_out(machine, (A, B)), empty([]))
        self.assertEqual(left_out(nothing([A, B]), [A]), nothing([B]))

    def test_let_in(self):
        rng = some(27)
        for _ in range(150):
            machine = random_machine(rng, 2)
            added = [one for one in rng.sample(ALL + (E,), 2) if one not in machine.letters]
            made = let_in(machine, added)
            self.check_rows(made, list(machine.letters) + added, 5 if len(made.letters) < 4 else 4,
                            lambda row: accepts(machine, tuple(one for one in row if one not in added)))
            self.assertEqual(left_out(made, added), machine)
        self.assertEqual(let_in(machine=empty([B]), letters=[A, A]), Machine([A, B], [[(0, 0)]], [0]))
        self.assertEqual(let_in(just([B], [B]), [A]), Machine([A, B], [[(0, 0), (1, 1)], [(0, 1)]], [1]))
        self.assertEqual(let_in(nothing([B]), [A]), nothing([A, B]))
        self.assertEqual(let_in(just([B], [B]), ()), just([B], [B]))

    def test_letters_of_the_machine_are_not_let_in(self):
        for letters in ([A], [C, A], (A,), [A, A]):
            with self.assertRaises(BadLetters):
                let_in(empty([A, B]), letters)

    def test_kept_by(self):
        rng = some(28)
        for _ in range(200):
            machine, other = random_machine(rng), random_machine(rng)
            made = kept_by(machine, other)
            self.check_rows(made, machine.letters, 5, lambda row: accepts(machine, row) and accepts(
                other, tuple(one for one in row if one in other.letters)))
        self.assertEqual(kept_by(machine=all_rows([A, B]), other=just([A, C], [A])),
                         Machine([A, B], [[(0, 1), (1, 0)], [(1, 1)]], [1]))
        self.assertEqual(kept_by(all_rows([A]), empty([C])), all_rows([A]))
        self.assertEqual(kept_by(all_rows([A]), nothing([C])), nothing([A]))
        self.assertEqual(kept_by(all_rows([A]), just([C], [C])), nothing([A]))

    def test_relettered(self):
        rng = some(29)
        for _ in range(200):
            machine = random_machine(rng)
            keys = rng.sample(machine.letters, rng.randint(0, len(machine.letters)))
            names = {key: rng.choice(ALL + (E,)) for key in keys}
            told = [names.get(one, one) for one in machine.letters]
            self.check_rows(relettered(machine, names), told, 5, lambda row: exchanges(machine, names, row))
        machine = just([A, B, C], [A, B, C])
        self.assertEqual(relettered(machine=machine, names={A: B, B: A}), just([A, B, C], [B, A, C]))
        self.assertEqual(relettered(machine, {A: C, B: C}), just([C], [C, C, C]))
        self.assertEqual(relettered(machine, {A: D}), just([B, C, D], [D, B, C]))
        self.assertEqual(relettered(machine, {}), machine)

    def test_wrong_names(self):
        machine = just([A, ("a", 1)], [A])
        wrong = [None, [], (), [(A, B)], {B: A}, {A: None}, {A: ["a"]}, {A: "a"}, {"a": A}, {A: B, B: A}, {("a", True): A},
                 {A: ("a", True)}, {None: A}, {A: ()}, {("a", 1.0): A}, A, "a", {A: ("A",)}]
        for names in wrong:
            with self.assertRaises(BadNames):
                relettered(machine, names)

    def test_put_for(self):
        rng = some(30)
        for _ in range(250):
            machine, other = random_machine(rng), random_machine(rng)
            letter = rng.choice(machine.letters)
            kept = [one for one in machine.letters if one != letter]
            made = put_for(machine, letter, other)
            self.check_rows(made, kept + list(other.letters), 5 if len(made.letters) < 4 else 4,
                            lambda row: stands(machine, letter, other, row))
        twice = just([A, B], [A, B, A])
        made = put_for(machine=twice, letter=A, other=one_of([C, D], [C, D]))
        self.assertEqual(rows(made, 3), {(one, B, two) for one, two in product((C, D), (C, D))})
        self.assertEqual(put_for(twice, A, empty([])), just([B], [B]))
        self.assertEqual(put_for(twice, A, nothing([A])), nothing([A, B]))
        self.assertEqual(put_for(twice, B, just([A, B], [B, A])), just([A, B], [A, B, A, A]))

    def test_wrong_letter(self):
        machine = empty([A, ("b", 1)])
        for letter in (B, None, "a", ["a"], [A], ("b", True), ("b", 1.0), (), {A: 1}, ("b", 2), C):
            with self.assertRaises(BadLetter):
                put_for(machine, letter, empty([B]))

    def test_wrong_letters(self):
        for letters in WRONG_LETTERS:
            for call in (left_out, let_in):
                with self.assertRaises(BadLetters):
                    call(empty([A]), letters)

    def test_no_machines(self):
        good = empty([A])
        for thing in ODD_VALUES + [(good.letters, good.ways, good.ends)]:
            for call in (lambda one: left_out(one, None), lambda one: let_in(one, None),
                         lambda one: kept_by(one, good), lambda one: kept_by(good, one),
                         lambda one: relettered(one, None), lambda one: put_for(one, None, good),
                         lambda one: put_for(good, None, one)):
                with self.assertRaises(BadMachine) as caught:
                    call(thing)
                self.assertIsNone(caught.exception.part)

    def test_two_hundred_letters(self):
        left = [("a", number) for number in range(100)]
        right = [("b", number) for number in range(101)]
        cases = [lambda letters: let_in(all_rows(left), letters),
                 lambda letters: put_for(all_rows(left + [("c",)]), ("c",), all_rows(letters))]
        for call in cases:
            self.assertEqual(len(call(right[:100]).letters), 200)
            with self.assertRaises(TooMany) as caught:
                call(right)
            self.assertEqual(caught.exception.most, 200)
        with self.assertRaises(TooMany) as caught:
            put_for(just(left + [("c",)], [("c",)] * 1500), ("c",), just(right, [right[0]] * 2))
        self.assertEqual(caught.exception.most, 200)

    def test_two_thousand_states(self):
        self.assertEqual(len(put_for(just([A, B], [A] * 999 + [B]), A, just([C, D], [C, D])).ways), 2000)
        with self.assertRaises(TooMany) as caught:
            put_for(just([A, B], [A] * 1000), A, just([C, D], [C, D]))
        self.assertEqual(caught.exception.most, 2000)
        ring = Machine([A], [[(0, (at + 1) % 87)] for at in range(87)], [0])
        other = Machine([A, B], [[(0, (at + 1) % 23), (1, at)] for at in range(23)], [0])
        with self.assertRaises(TooMany):
            kept_by(ring, other)
        with self.assertRaises(TooMany) as caught:
            relettered(marked_by(12), {C: B})
        self.assertEqual(caught.exception.most, 2000)
        self.assertEqual(len(relettered(marked_by(10), {C: B}).ways), 2 ** 10)

    def test_many_sets_of_states_and_few_in_the_least_form(self):
        shape = joined(marked_by(14), all_rows([A, B]))
        self.assertEqual(relettered(shape, {C: B}), all_rows([A, B]))
        told = joined(marked_by(14, True), all_rows([A, B]))
        self.assertEqual(left_out(told, [C]), all_rows([A, B]))
        self.assertEqual(put_for(shape, C, one_of([A, B], [B])), all_rows([A, B]))
        one, other = counting(A, C), counting(B, D)
        self.assertEqual(kept_by(widened(one, [D]), other), nothing([A, B, C, D]))
        self.assertEqual(both(one, other), nothing([A, B, C, D]))


def marked_by(many, is_marked=False):
    """Takes rows of a and b with c in the place of the b at that place from the end (or ahead)."""
    first = [[(0, 0), (1, 0), (2, 1)]]
    ahead = [[(1, 2)]] if is_marked else []
    start = 2 if is_marked else 1
    rest = [[(0, n), (1, n)] for n in range(start + 1, start + many)]
    return Machine([A, B, C], first + ahead + rest + [[]], [start + many - 1])


if __name__ == "__main__":
    unittest.main()
