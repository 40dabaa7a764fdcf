"""Point 23: machines made of two, and of what one does not take."""

import unittest

from languages import A, B, C, D, accepts, all_rows_of, check_least, counting, random_machine
from playsalike.errors import BadMachine, TooMany
from playsalike.joins import both, contrary, joined, without
from playsalike.letters import in_order
from playsalike.machines import Machine, widened
from playsalike.makers import all_rows, empty, just, nothing, one_of
from samples import ODD_VALUES, some

TWO = ((joined, lambda here, there: here or there), (both, lambda here, there: here and there),
       (without, lambda here, there: here and not there))


def ring(many, letter=A, ends=(0,)):
    return Machine([letter], [[(0, (state + 1) % many)] for state in range(many)], sorted(ends))


class Joins(unittest.TestCase):
    def check_two(self, machine, other, most):
        letters = in_order(machine.letters + other.letters)
        for call, is_taken in TWO:
            made = call(machine, other)
            self.assertEqual(made.letters, tuple(letters))
            check_least(self, made)
            for row in all_rows_of(letters, most):
                self.assertEqual(accepts(made, row), bool(is_taken(accepts(machine, row), accepts(other, row))))

    def test_by_hand(self):
        a, b = just([A], [A]), just([A, B], [B, B])
        self.assertEqual(joined(machine=a, other=b), Machine([A, B], [[(0, 1), (1, 2)], [], [(1, 1)]], [1]))
        self.assertEqual(both(machine=a, other=b), nothing([A, B]))
        self.assertEqual(without(machine=a, other=b), just([A, B], [A]))
        self.assertEqual(contrary(machine=empty([A])), Machine([A], [[(0, 1)], [(0, 1)]], [1]))

    def test_special_machines(self):
        for machine in (nothing([]), empty([]), nothing([A]), empty([A]), all_rows([A]), all_rows([A, B])):
            for other in (nothing([]), empty([B]), all_rows([A]), nothing([A, B]), one_of([A, B], [B])):
                self.check_two(machine, other, 3)
        self.assertEqual(contrary(nothing([])), empty([]))
        self.assertEqual(contrary(empty([])), nothing([]))
        self.assertEqual(contrary(nothing([A, B])), all_rows([A, B]))
        self.assertEqual(contrary(all_rows([A, B])), nothing([A, B]))

    def test_random_machines(self):
        rng = some(23)
        for _ in range(250):
            machine, other = random_machine(rng), random_machine(rng)
            self.check_two(machine, other, 5 if len(set(machine.letters + other.letters)) < 4 else 4)

    def test_random_contraries(self):
        rng = some(24)
        for _ in range(200):
            machine = random_machine(rng)
            made = contrary(machine)
            self.assertEqual(made.letters, machine.letters)
            check_least(self, made)
            for row in all_rows_of(machine.letters, 5):
                self.assertNotEqual(accepts(made, row), accepts(machine, row))
            self.assertEqual(contrary(made), machine)

    def test_no_machines(self):
        good = empty([A])
        for thing in ODD_VALUES + [(good.letters, good.ways, good.ends)]:
            for call, _ in TWO:
                for args in ((thing, good), (good, thing), (thing, thing)):
                    with self.assertRaises(BadMachine) as caught:
                        call(*args)
                    self.assertIsNone(caught.exception.part)
            with self.assertRaises(BadMachine) as caught:
                contrary(thing)
            self.assertIsNone(caught.exception.part)

    def test_two_hundred_letters(self):
        left = [("a", number) for number in range(100)]
        right = [("b", number) for number in range(101)]
        for call, _ in TWO:
            self.assertEqual(len(call(all_rows(left), all_rows(right[:100])).letters), 200)
            with self.assertRaises(TooMany) as caught:
                call(all_rows(left), all_rows(right))
            self.assertEqual(caught.exception.most, 200)

    def test_two_thousand_states(self):
        self.assertEqual(len(joined(ring(40), ring(49)).ways), 1960)
        self.assertEqual(len(both(ring(16), ring(125)).ways), 2000)
        for call in (both, joined):
            with self.assertRaises(TooMany) as caught:
                call(ring(23), ring(87))   # 2001 states
            self.assertEqual(caught.exception.most, 2000)
        self.assertEqual(len(contrary(just([A], [A] * 1998)).ways), 2000)
        with self.assertRaises(TooMany):
            contrary(just([A], [A] * 1999))
        with self.assertRaises(TooMany) as caught:
            joined(just([("a", n) for n in range(150)], []), just([("b", n) for n in range(150)], [("b", 0)] * 1999))
        self.assertEqual(caught.exception.most, 200)

    def test_many_pairs_of_states_and_few_in_the_least_form(self):
        one, other = counting(A, C), counting(B, D)   # 140 * 140 pairs of counts
        self.assertEqual(len(one.ways), 141)
        self.assertEqual(both(one, other), nothing([A, B, C, D]))
        self.assertEqual(without(one, other), widened(one, [D]))
        with self.assertRaises(TooMany) as caught:
            joined(one, other)
        self.assertEqual(caught.exception.most, 2000)
        self.assertEqual(joined(counting(A, C), contrary(widened(counting(B, D), [C]))),
                         contrary(widened(counting(B, D), [C])))


if __name__ == "__main__":
    unittest.main()
