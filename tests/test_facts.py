"""Point 28: what machines keep to, and the example by hand."""

import unittest

from languages import A, B, C, D, random_machine
from playsalike.asking import count_rows, first_row, is_among, lengths
from playsalike.chains import again, backwards, behind
from playsalike.joins import both, joined, without
from playsalike.leaving import left_out, let_in
from playsalike.machines import widened
from playsalike.makers import empty, just, nothing
from samples import some

ALL = [A, B, C]
TOLD = ("first", 5)


class Facts(unittest.TestCase):
    def setUp(self):
        rng = some(36)
        wide = [widened(random_machine(rng), ALL + [D]) for _ in range(90)]
        self.threes = [tuple(wide[at:at + 3]) for at in range(0, 90, 3)]
        self.empty, self.nothing = empty(ALL + [D]), nothing(ALL + [D])

    def test_sums_and_products(self):
        one, none = self.empty, self.nothing
        for a, b, c in self.threes:
            self.assertEqual(joined(a, b), joined(b, a))
            self.assertEqual(joined(a, joined(b, c)), joined(joined(a, b), c))
            self.assertEqual(joined(a, none), a)
            self.assertEqual(joined(a, a), a)
            self.assertEqual(behind(a, behind(b, c)), behind(behind(a, b), c))
            self.assertEqual(behind(a, one), a)
            self.assertEqual(behind(one, a), a)
            self.assertEqual(behind(a, none), none)
            self.assertEqual(behind(none, a), none)
            self.assertEqual(behind(a, joined(b, c)), joined(behind(a, b), behind(a, c)))
            self.assertEqual(behind(joined(a, b), c), joined(behind(a, c), behind(b, c)))

    def test_again(self):
        for a, m, other in self.threes:
            self.assertEqual(again(m), joined(self.empty, behind(m, again(m))))
            least = behind(again(m), a)
            self.assertTrue(is_among(joined(a, behind(m, least)), least))
            for x in (joined(other, least), behind(again(joined(m, other)), a)):
                if is_among(joined(a, behind(m, x)), x):
                    self.assertTrue(is_among(least, x))

    def test_left_out(self):
        for a, b, _ in self.threes:
            for some_letters in ([A], [B, C], [D, A], []):
                self.assertEqual(left_out(joined(a, b), some_letters),
                                 joined(left_out(a, some_letters), left_out(b, some_letters)))
                self.assertEqual(left_out(behind(a, b), some_letters),
                                 behind(left_out(a, some_letters), left_out(b, some_letters)))
                self.assertEqual(left_out(again(a), some_letters), again(left_out(a, some_letters)))

    def test_let_in(self):
        for a, b, _ in self.threes:
            for call in (joined, both, without):
                self.assertEqual(let_in(call(a, b), [TOLD]), call(let_in(a, [TOLD]), let_in(b, [TOLD])))
            self.assertEqual(left_out(let_in(a, [TOLD, ("e",)]), [TOLD, ("e",)]), a)

    def test_backwards(self):
        for a, b, _ in self.threes:
            self.assertEqual(backwards(behind(a, b)), behind(backwards(b), backwards(a)))
            self.assertEqual(backwards(backwards(a)), a)

    def test_example_by_hand(self):
        letters = [A, B]
        machine = again(behind(just(letters, [A]), joined(just(letters, [B]), empty(letters))))
        self.assertEqual(machine.letters, (A, B))
        self.assertEqual(machine.ways, (((0, 1),), ((0, 1), (1, 0))))
        self.assertEqual(machine.ends, (0, 1))
        self.assertEqual(first_row(machine), [])
        self.assertEqual(lengths(machine), (0, None))
        self.assertEqual(count_rows(machine, 3), 3)
        made = left_out(machine, [B])
        self.assertEqual((made.letters, made.ways, made.ends), ((A,), (((0, 0),),), (0,)))


if __name__ == "__main__":
    unittest.main()
