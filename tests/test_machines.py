"""Point 21: machines, their least form, and what they take."""

import unittest

from languages import ALL, A, B, C, accepts, all_rows_of, check_least, is_taken, least_count, random_machine, rows
from playsalike.errors import BadLetters, BadMachine, BadRow, TooMany
from playsalike.letters import in_order
from playsalike.machines import Machine, takes, widened
from samples import ODD_VALUES, some


class Machines(unittest.TestCase):
    def check_part(self, part, letters, ways, ends):
        with self.assertRaises(BadMachine) as caught:
            Machine(letters, ways, ends)
        self.assertEqual(caught.exception.part, part, (letters, ways, ends))

    def test_attributes_of_the_least_form(self):
        machine = Machine([A, B], [[(0, 1), (1, 2)], [(0, 3)], [(0, 3)], [(1, 4)], []], [3])
        self.assertEqual(machine.letters, (A, B))
        self.assertEqual(machine.ways, (((0, 1), (1, 1)), ((0, 2),), ()))
        self.assertEqual(machine.ends, (2,))
        self.assertEqual(Machine(letters=(A,), ways=(((0, 0),),), ends=(0,)).ways, (((0, 0),),))

    def test_needless_states(self):
        plain = Machine([A, B], [[(0, 1)], []], [1])
        self.assertEqual(plain, Machine([A, B], [[(0, 1)], [], [(0, 1)]], [1, 2]))        # never led to
        self.assertEqual(plain, Machine([A, B], [[(0, 1), (1, 2)], [], [(0, 2)]], [1]))   # leads to no end
        self.assertEqual(plain, Machine([A, B], [[(0, 2)], [], []], [1, 2]))              # numbered otherwise
        self.assertEqual(plain, Machine([A, B], [[(0, 1)], [(1, 2)], [(1, 2)]], [1]))
        self.assertEqual(plain.ways, (((0, 1),), ()))

    def test_alike_states(self):
        ring = [[(0, (state + 1) % 12)] for state in range(12)]
        self.assertEqual(Machine([A], ring, [0, 3, 6, 9]), Machine([A], [[(0, 1)], [(0, 2)], [(0, 0)]], [0]))
        self.assertEqual(len(Machine([A], ring, [0, 3, 6, 8]).ways), 12)
        every = Machine([A, B], [[(0, 1), (1, 2)], [(0, 2), (1, 0)], [(0, 0), (1, 1)]], [0, 1, 2])
        self.assertEqual((every.ways, every.ends), ((((0, 0), (1, 0)),), (0,)))

    def test_machines_that_take_nothing(self):
        for ways, ends in (([[]], []), ([[(0, 1)], [(0, 0)]], []), ([[(0, 0)], []], [1]), ([[(1, 1)], [], []], [2])):
            machine = Machine([A, B], ways, ends)
            self.assertEqual((machine.letters, machine.ways, machine.ends), ((A, B), ((),), ()))

    def test_machines_without_letters(self):
        self.assertEqual((Machine([], [[]], [0]).ways, Machine([], [[]], [0]).ends), (((),), (0,)))
        self.assertEqual(Machine([], [[], []], [1]).ends, ())

    def test_equal(self):
        machine = Machine([A], [[(0, 0)]], [0])
        self.assertNotEqual(machine, Machine([B], [[(0, 0)]], [0]))
        self.assertNotEqual(machine, Machine([A, B], [[(0, 0)]], [0]))
        self.assertNotEqual(machine, Machine([A], [[(0, 1)], []], [0, 1]))
        self.assertNotEqual(machine, Machine([A], [[]], [0]))
        self.assertNotEqual(Machine([A], [[(0, 1)], []], [0, 1]), Machine([A], [[(0, 1)], []], [1]))
        for thing in ODD_VALUES + [machine.ways, (machine.letters, machine.ways, machine.ends)]:
            self.assertFalse(machine == thing)

    def test_letters(self):
        many = [("a", number) for number in range(201)]
        self.assertEqual(len(Machine(many[:200], [[(199, 0)]], [0]).letters), 200)
        wrong = [None, "a", {A: 1}, [B, A], [A, A], [["a"]], [A, None], ("a",), many, [("a", True)], 5,
                 [("a", 1), B], [("A",)], [A, ("a", 1), ("a", 0)]]
        for letters in wrong:
            self.check_part("letters", letters, None, None)

    def test_ways(self):
        wrong = [None, [], (), [None], [[0]], [[(0,)]], [[(0, 0, 0)]], [[[0, 0]]], [[(2, 0)]], [[(-1, 0)]], [[(0, 1)]],
                 [[(0, -1)]], [[(1, 0), (0, 0)]], [[(0, 0), (0, 0)]], [[(False, 0)]], [[(0, False)]], [[(0, True)], []],
                 [[(0.0, 0)]], [[(0, 0.0)]], [{0: 0}], {0: []}, "a", [""], [[("a", 0)]], [[]] * 2001, [(0, 0)], [[], None]]
        for ways in wrong:
            self.check_part("ways", [A, B], ways, None)
        self.check_part("ways", [], [[(0, 0)]], [])
        self.assertEqual(Machine([A], [[]] * 2000, [0]).ends, (0,))

    def test_ends(self):
        wrong = [None, "", [1], [-1], [0, 0], [True], [False], [0.0], {0: 1}, 0, [None], ["0"], [(0,)]]
        for ends in wrong:
            self.check_part("ends", [A], [[]], ends)
        self.check_part("ends", [A], [[], []], [1, 0])

    def test_parts_in_their_sequence(self):
        self.check_part("letters", [B, A], [], [5])
        self.check_part("ways", [A, B], [], [5])

    def test_takes(self):
        machine = Machine([A, B], [[(0, 1)], [(1, 0)]], [0])
        for row, wanted in (([], True), ([A], False), ([A, B], True), ([B], False), ([A, B, A, B], True),
                            ([A, A], False), ([C], False), ([A, B, C], False), ((A, B), True), ([A, ("z", 9)], False)):
            self.assertIs(takes(machine, row), wanted)
            self.assertIs(takes(machine=machine, row=row), wanted)
        for row in (None, "a", ("a",), [["a"]], [A, None], [("a", True)], {A: 1}, 5):
            with self.assertRaises(BadRow):
                takes(machine, row)
        for thing in ODD_VALUES:
            with self.assertRaises(BadMachine) as caught:
                takes(thing, None)
            self.assertIsNone(caught.exception.part)

    def test_widened(self):
        machine = Machine([A, C], [[(0, 1)], [(1, 0)]], [0])
        wide = widened(machine, [B, C, B, ("a", 3)])
        self.assertEqual(wide.letters, (A, B, C, ("a", 3)))
        self.assertEqual((wide.ways, wide.ends), ((((0, 1),), ((2, 0),)), (0,)))
        self.assertEqual(widened(machine=machine, letters=[]), machine)
        self.assertEqual(widened(machine, (A,)), machine)
        for letters in (None, A, [["a"]], "a", [None], {A: 1}):
            with self.assertRaises(BadLetters):
                widened(machine, letters)
        for thing in ODD_VALUES:
            with self.assertRaises(BadMachine) as caught:
                widened(thing, None)
            self.assertIsNone(caught.exception.part)
        self.assertEqual(len(widened(machine, [("b", n) for n in range(198)]).letters), 200)
        with self.assertRaises(TooMany) as caught:
            widened(machine, [("b", n) for n in range(199)])
        self.assertEqual(caught.exception.most, 200)

    def test_widened_numbers_states_by_the_new_order_of_letters(self):
        machine = Machine([B], [[(0, 1)], []], [1])
        self.assertEqual(widened(machine, [A]).ways, (((1, 1),), ()))

    def test_handed_in_and_changed_afterwards(self):
        letters, ways, ends = [A, B], [[(0, 1)], [(1, 0)]], [0]
        machine = Machine(letters, ways, ends)
        self.assertEqual((letters, ways, ends), ([A, B], [[(0, 1)], [(1, 0)]], [0]))
        letters.append(C)
        ways[0].append((1, 1))
        ends.append(1)
        self.assertEqual(machine, Machine([A, B], [[(0, 1)], [(1, 0)]], [0]))

    def test_random_machines_are_least(self):
        rng = some(21)
        for _ in range(400):
            letters = in_order(rng.sample(ALL, rng.randint(0, 3)))
            many = rng.randint(1, 7)
            ways = [[(k, rng.randrange(many)) for k in range(len(letters)) if rng.random() < 0.7] for _ in range(many)]
            ends = sorted(rng.sample(range(many), rng.randint(0, many)))
            machine = Machine(letters, ways, ends)
            check_least(self, machine)
            self.assertEqual(len(machine.ways), least_count(letters, ways, ends))
            for row in all_rows_of(letters, 6 if len(letters) < 3 else 5):
                self.assertEqual(takes(machine, row), is_taken(letters, ways, ends, row))

    def test_equal_exactly_if_they_take_the_same_rows(self):
        rng = some(22)
        alike = 0
        for _ in range(1500):
            one, other = random_machine(rng, 2, 3), random_machine(rng, 2, 3)
            if one.letters != other.letters:
                self.assertNotEqual(one, other)
                continue
            same = rows(one, 6) == rows(other, 6)   # 3 and 3 states: rows of 5 letters part them
            self.assertEqual(one == other, same)
            alike += same
        self.assertGreater(alike, 50)

    def test_long_rings_and_chains(self):
        ring = [[(0, (state + 1) % 2000)] for state in range(2000)]
        self.assertEqual(len(Machine([A], ring, [7]).ways), 2000)
        self.assertEqual(len(Machine([A], ring, list(range(0, 2000, 8))).ways), 8)
        chain = [[(0, state + 1)] for state in range(1999)] + [[]]
        self.assertEqual(len(Machine([A], chain, [1999]).ways), 2000)
        self.assertEqual(len(Machine([A], chain, list(range(2000))).ways), 2000)
        self.assertTrue(accepts(Machine([A], chain, [1999]), [A] * 1999))


if __name__ == "__main__":
    unittest.main()
