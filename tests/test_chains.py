"""Point 24: rows put behind one another, and told backwards."""

import unittest

from languages import A, B, C, accepts, all_rows_of, check_least, random_machine
from playsalike.chains import again, backwards, behind
from playsalike.errors import BadMachine, TooMany
from playsalike.joins import joined
from playsalike.letters import in_order
from playsalike.machines import Machine
from playsalike.makers import all_rows, empty, just, nothing, one_of
from samples import ODD_VALUES, some


def splits(row):
    return [(row[:at], row[at:]) for at in range(len(row) + 1)]


def is_chain(machine, row):
    """Whether the row is none or more rows of the machine, one behind the other."""
    if row == ():
        return True
    return any(first != () and accepts(machine, first) and is_chain(machine, rest) for first, rest in splits(row))


class Chains(unittest.TestCase):
    def check_all(self, machine, other, most):
        made = behind(machine, other)
        self.assertEqual(made.letters, tuple(in_order(machine.letters + other.letters)))
        check_least(self, made)
        for row in all_rows_of(made.letters, most):
            self.assertEqual(accepts(made, row), any(
                accepts(machine, first) and accepts(other, rest) for first, rest in splits(row)))
        self.check_one(machine, most)

    def check_one(self, machine, most):
        more, turned = again(machine), backwards(machine)
        for made in (more, turned):
            self.assertEqual(made.letters, machine.letters)
            check_least(self, made)
        for row in all_rows_of(machine.letters, most):
            self.assertEqual(accepts(more, row), is_chain(machine, row))
            self.assertEqual(accepts(turned, row), accepts(machine, row[::-1]))

    def test_example_by_hand(self):
        letters = [A, B]
        machine = again(behind(just(letters, [A]), joined(just(letters, [B]), empty(letters))))
        self.assertEqual(machine.ways, (((0, 1),), ((0, 1), (1, 0))))
        self.assertEqual(machine.ends, (0, 1))
        for row in all_rows_of(letters, 6):
            plain = "".join(letter[0] for letter in row)
            self.assertEqual(accepts(machine, row), not plain.startswith("b") and "bb" not in plain)

    def test_special_machines(self):
        some_of_all = [nothing([]), empty([]), nothing([A]), empty([A]), all_rows([A]), all_rows([A, B]),
                       one_of([A, B], [B]), just([A], [A, A])]
        for machine in some_of_all:
            for other in some_of_all:
                self.check_all(machine, other, 4)
        self.assertEqual(again(machine=nothing([A])), empty([A]))
        self.assertEqual(again(empty([])), empty([]))
        self.assertEqual(behind(machine=nothing([A]), other=all_rows([B])), nothing([A, B]))
        self.assertEqual(behind(all_rows([B]), nothing([A])), nothing([A, B]))
        self.assertEqual(backwards(machine=just([A, B], [A, B, B])), just([A, B], [B, B, A]))

    def test_the_first_state_comes_again_without_an_end(self):
        machine = Machine([A, B], [[(0, 0), (1, 1)], []], [1])   # any a, then b
        self.check_all(machine, machine, 5)
        self.assertFalse(accepts(again(machine), (A,)))
        self.assertTrue(accepts(again(machine), ()))

    def test_random_machines(self):
        rng = some(25)
        for _ in range(150):
            machine, other = random_machine(rng), random_machine(rng)
            self.check_all(machine, other, 5 if len(set(machine.letters + other.letters)) < 4 else 4)

    def test_no_machines(self):
        good = empty([A])
        for thing in ODD_VALUES + [(good.letters, good.ways, good.ends)]:
            for call in (again, backwards, lambda one: behind(one, good), lambda one: behind(good, one)):
                with self.assertRaises(BadMachine) as caught:
                    call(thing)
                self.assertIsNone(caught.exception.part)

    def test_two_hundred_letters(self):
        left = [("a", number) for number in range(100)]
        right = [("b", number) for number in range(101)]
        self.assertEqual(len(behind(all_rows(left), all_rows(right[:100])).letters), 200)
        with self.assertRaises(TooMany) as caught:
            behind(all_rows(left), all_rows(right))
        self.assertEqual(caught.exception.most, 200)

    def test_two_thousand_states(self):
        half = just([A], [A] * 1000)
        self.assertEqual(len(behind(half, just([A], [A] * 999)).ways), 2000)
        with self.assertRaises(TooMany) as caught:
            behind(half, half)
        self.assertEqual(caught.exception.most, 2000)
        two = joined(just([A], [A] * 1000), just([A], [A] * 1999))
        self.assertEqual(len(backwards(two).ways), 2000)
        self.assertEqual(len(again(just([A, B], [A] * 1999)).ways), 1999)
        few = joined(just([A], [A] * 44), just([A], [A] * 46))   # 44 and 46: all even numbers from 924 on
        self.assertEqual(len(again(few).ways), 925)
        with self.assertRaises(TooMany):
            again(joined(just([A], [A] * 999), just([A], [A] * 1999)))

    def test_sets_of_states_that_double(self):
        for many, fits in ((10, True), (11, False)):
            tail = Machine([A, B], [[(1, 1)]] + [[(0, n), (1, n)] for n in range(2, many + 1)] + [[]], [many])
            front = all_rows([A, B])
            if fits:   # rows with b at the tenth place from the end
                self.assertEqual(len(behind(front, tail).ways), 2 ** many)
            else:
                with self.assertRaises(TooMany) as caught:
                    behind(front, tail)
                self.assertEqual(caught.exception.most, 2000)
        tail = Machine([A, B], [[(0, n), (1, n)] for n in range(1, 10)] + [[(1, 10)], []], [10])
        self.assertEqual(len(backwards(behind(tail, all_rows([A, B]))).ways), 2 ** 10)

    def test_many_sets_of_states_and_few_in_the_least_form(self):
        many = 13   # rows with b at the 13th place from the end: 2 ** 13 sets
        letters = [A, B, C]
        tail = Machine(letters, [[(1, 1)]] + [[(0, n), (1, n)] for n in range(2, many + 1)] + [[(2, many + 1)], []],
                       [many + 1])
        made = behind(all_rows([A, B]), joined(tail, joined(one_of(letters, [C]), empty(letters))))
        self.assertEqual(made, Machine(letters, [[(0, 0), (1, 0), (2, 1)], []], [0, 1]))
        turned = joined(backwards(tail), joined(one_of(letters, [C]), all_rows(letters)))
        self.assertEqual(backwards(turned), all_rows(letters))


if __name__ == "__main__":
    unittest.main()
