"""Point 27: what can stand behind rows."""

import unittest

from languages import A, B, C, D, all_rows_of, check_least, random_machine, rows
from playsalike.chains import again, behind
from playsalike.errors import BadMachine, BadRow
from playsalike.joins import joined
from playsalike.letters import in_order
from playsalike.machines import Machine, takes, widened
from playsalike.makers import all_rows, empty, just, nothing
from playsalike.rests import beginnings, led, next_letters, rest
from samples import ODD_VALUES, some

CALLS = (led, next_letters, rest)


class Rests(unittest.TestCase):
    def test_by_hand(self):
        machine = again(behind(just([A], [A]), joined(just([B], [B]), empty([]))))
        self.assertEqual([led(machine, row) for row in ([], [A], [A, B], [A, B, A], [B], [A, B, B], [C])],
                         [0, 1, 0, 1, None, None, None])
        self.assertEqual(next_letters(machine, [A]), [A, B])
        self.assertEqual(next_letters(machine, [A, B]), [A])
        self.assertEqual(next_letters(machine, [B]), [])
        self.assertEqual(rest(machine, [A, B]), machine)
        self.assertEqual(rest(machine, [B]), nothing([A, B]))
        self.assertEqual(rest(machine=machine, row=(A,)), rest(machine, [A, A]))
        self.assertEqual(beginnings(machine=just([A, B, C], [A, B])),
                         joined(empty([A, B, C]), joined(just([A], [A]), just([A, B, C], [A, B]))))
        self.assertEqual(led(machine=just([A], [A]), row=[A]), 1)
        self.assertEqual(next_letters(machine=just([A], [A]), row=[]), [A])

    def test_letters_stand_in_order(self):
        machine = just([A, B, D], [A])
        for letter in (D, B, A):
            machine = joined(machine, just([letter], [letter, letter]))
        self.assertEqual(next_letters(machine, []), [A, B, D])
        self.assertEqual(next_letters(machine, [A]), [A])

    def test_machines_that_take_nothing(self):
        for letters in ([], [A, B]):
            machine = nothing(letters)
            for row in ([], [A], [C]):
                self.assertIsNone(led(machine, row))
                self.assertEqual(next_letters(machine, row), [])
                self.assertEqual(rest(machine, row), machine)
            self.assertEqual(beginnings(machine), machine)
        self.assertEqual(led(empty([A]), []), 0)
        self.assertEqual(beginnings(all_rows([A, B])), all_rows([A, B]))

    def test_by_chance_against_rows(self):
        rng = some(27)
        for _ in range(150):
            machine = random_machine(rng)
            taken = rows(machine, 8)     # of at most 4 states: each rest shows itself within 4 letters
            begun = {row[:end] for row in taken for end in range(len(row) + 1)}
            self.assertEqual(rows(beginnings(machine), 4), {row for row in begun if len(row) <= 4})
            check_least(self, beginnings(machine))
            for row in all_rows_of(machine.letters, 3) + [(A, ("other",))]:
                further = {full[len(row):] for full in taken if full[:len(row)] == row}
                found = rest(machine, row)
                self.assertEqual(found.letters, machine.letters)
                self.assertEqual(rows(found, 4), {one for one in further if len(one) <= 4})
                check_least(self, found)
                self.assertEqual(next_letters(machine, list(row)),
                                 in_order([one[0] for one in further if one]))
                self.assertEqual(led(machine, row) is not None, row in begun)

    def test_states_are_rests(self):
        rng = some(28)
        for _ in range(120):
            machine = random_machine(rng)
            found = {}
            for row in all_rows_of(machine.letters, 4):
                state = led(machine, row)
                after = rest(machine, row)
                self.assertEqual(state is not None, after != nothing(machine.letters))
                if state is not None:
                    found.setdefault(state, []).append(after)
            if found:
                self.assertEqual(sorted(found), list(range(len(machine.ways))))
            for state, rests in found.items():
                self.assertTrue(all(one == rests[0] for one in rests))
                self.assertTrue(all(rests[0] != found[other][0] for other in found if other != state))

    def test_the_state_is_that_of_the_least_form(self):
        machine = Machine([A, B], [[(0, 1), (1, 2)], [(0, 3)], [(0, 3)], [], []], [3])
        self.assertEqual([led(machine, row) for row in ([], [A], [B], [A, A], [B, A])], [0, 1, 1, 2, 2])
        self.assertEqual(rest(machine, [B]), just([A, B], [A]))
        self.assertEqual(rest(widened(machine, [C]), [B]), just([A, B, C], [A]))

    def test_errors(self):
        machine = just([A, B], [A])
        for thing in ODD_VALUES:
            for call in CALLS:
                with self.assertRaises(BadMachine) as caught:
                    call(thing, "no row")
                self.assertIsNone(caught.exception.part)
            with self.assertRaises(BadMachine) as caught:
                beginnings(thing)
            self.assertIsNone(caught.exception.part)
        for row in (None, "a", A, [A, "a"], [["a"]], [("a", True)], [("a", -1)], {A: 1}, [None], 3, iter([A])):
            for call in CALLS:
                with self.assertRaises(BadRow):
                    call(machine, row)

    def test_beginnings_of_beginnings(self):
        rng = some(29)
        for _ in range(60):
            machine = random_machine(rng)
            self.assertEqual(beginnings(beginnings(machine)), beginnings(machine))
            for row in rows(machine, 4):
                self.assertTrue(all(takes(beginnings(machine), list(row[:end])) for end in range(len(row) + 1)))


if __name__ == "__main__":
    unittest.main()
