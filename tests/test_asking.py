"""Point 26: what is asked of machines."""

import unittest

from languages import A, B, C, D, accepts, all_rows_of, random_machine, rows
from playsalike.asking import count_rows, first_apart, first_beyond, first_row, is_among, lengths, rows_of
from playsalike.errors import BadMachine, BadNumber, TooMany
from playsalike.joins import both, joined
from playsalike.letters import in_order
from playsalike.machines import Machine, widened
from playsalike.makers import all_rows, empty, just, nothing, one_of
from samples import ODD_VALUES, some

AHEAD = ("z",)            # ahead of the next one: shorter ones come first
BEHIND = ("a", 7)


def in_row_order(found):
    """Rows by length, then by letters, for letters of which in_order tells the order."""
    order = in_order([letter for row in found for letter in row])
    return [list(row) for row in sorted(found, key=lambda row: (len(row), [order.index(one) for one in row]))]


def chain(many, letter=A):
    return just([letter], [letter] * many)


def ring(many):
    return Machine([A], [[(0, (state + 1) % many)] for state in range(many)], [0])


class Asking(unittest.TestCase):
    def test_first_row(self):
        self.assertEqual(first_row(machine=empty([A])), [])
        self.assertIsNone(first_row(nothing([A])))
        machine = joined(just([A, B], [B]), joined(just([A], [A, A]), just([C], [C])))
        self.assertEqual(first_row(machine), [B])
        self.assertEqual(first_row(joined(just([BEHIND], [BEHIND]), just([AHEAD], [AHEAD]))), [AHEAD])
        self.assertEqual(first_row(joined(just([A, B], [B, A]), just([A, B], [A, B]))), [A, B])

    def test_rows_by_chance(self):
        rng = some(31)
        for _ in range(300):
            machine = random_machine(rng)
            most = rng.randint(0, 5)
            wanted = in_row_order(rows(machine, most))
            self.assertEqual(rows_of(machine, most), wanted)
            self.assertEqual(rows_of(machine=machine, most=most), wanted)
            self.assertEqual(count_rows(machine=machine, length=most), sum(len(row) == most for row in wanted))
            first = in_row_order(rows(machine, 4))   # at most 4 states: the least row has at most 3 letters
            self.assertEqual(first_row(machine), first[0] if first else None)

    def test_first_apart_and_beyond_by_chance(self):
        rng = some(32)
        seen = {}
        for _ in range(500):
            machine, other = random_machine(rng, 2, 3), random_machine(rng, 2, 3)
            letters = in_order(machine.letters + other.letters)
            every = all_rows_of(letters, 6 if len(letters) < 4 else 5)
            apart = in_row_order([row for row in every if accepts(machine, row) != accepts(other, row)])
            beyond = in_row_order([row for row in every if accepts(machine, row) and not accepts(other, row)])
            self.assertEqual(first_apart(machine=machine, other=other), apart[0] if apart else None)
            self.assertEqual(first_apart(other, machine), apart[0] if apart else None)
            self.assertEqual(first_beyond(machine=machine, other=other), beyond[0] if beyond else None)
            self.assertIs(is_among(machine=machine, other=other), not beyond)
            wide, also = widened(machine, other.letters), widened(other, machine.letters)
            self.assertEqual(both(machine, other) == wide, is_among(machine, other))
            self.assertEqual(first_apart(machine, other) is None, wide == also)
            for word in (bool(apart), bool(beyond)):
                seen[word] = seen.get(word, 0) + 1
        self.assertGreater(min(seen.values()), 30)

    def test_letters_that_one_has_and_the_other_has_not(self):
        self.assertIsNone(first_apart(all_rows([]), empty([A])))
        self.assertIsNone(first_apart(nothing([A]), nothing([B])))
        self.assertEqual(first_apart(all_rows([A]), all_rows([A, B])), [B])
        self.assertEqual(first_apart(all_rows([B]), all_rows([A, B])), [A])
        self.assertIsNone(first_beyond(all_rows([A]), all_rows([A, B])))
        self.assertEqual(first_beyond(all_rows([A, B]), all_rows([A])), [B])
        self.assertIs(is_among(just([A], [A]), one_of([A, B], [A, B])), True)
        self.assertEqual(first_apart(just([BEHIND], [BEHIND]), just([AHEAD], [AHEAD])), [AHEAD])
        many = [("a", number) for number in range(200)]
        self.assertEqual(first_apart(all_rows(many), all_rows([C, D])), [C])
        self.assertEqual(first_beyond(all_rows([C, D]), all_rows(many)), [C])
        self.assertEqual(first_beyond(all_rows(many), all_rows([C, D])), [("a", 0)])

    def test_rows_of_more_than_a_thousand_letters(self):
        self.assertEqual(first_row(chain(1999)), [A] * 1999)
        self.assertEqual(lengths(chain(1999)), (1999, 1999))
        self.assertEqual(first_apart(ring(1500), ring(2000)), [A] * 1500)
        self.assertEqual(first_beyond(ring(2000), ring(1500)), [A] * 2000)
        self.assertEqual(len(first_apart(chain(1700), chain(1800))), 1700)
        self.assertIsNone(first_apart(ring(2000), ring(2000)))
        odd = Machine([A], [[(0, (state + 1) % 97)] for state in range(97)], [0])
        self.assertEqual(len(first_beyond(odd, joined(without_of(19), empty([A])))), 97 * 19)
        self.assertEqual(first_apart(joined(chain(1500), chain(3)), joined(chain(1500), chain(3, B))), [A] * 3)

    def test_numbers_that_may_be_asked(self):
        machine = all_rows([A])
        self.assertEqual(len(rows_of(machine, 100)), 101)
        self.assertEqual(rows_of(machine, 0), [[]])
        self.assertEqual(count_rows(machine, 1000), 1)
        self.assertEqual(count_rows(all_rows([A, B]), 1000), 2 ** 1000)
        self.assertEqual(count_rows(machine, 0), 1)
        self.assertEqual(count_rows(nothing([A]), 5), 0)
        for most in (-1, 101, True, 1.0, None, "1", [1]):
            with self.assertRaises(BadNumber) as caught:
                rows_of(machine, most)
            self.assertEqual(caught.exception.part, "most")
        for length in (-1, 1001, False, 1.0, None, "1", (1,)):
            with self.assertRaises(BadNumber) as caught:
                count_rows(machine, length)
            self.assertEqual(caught.exception.part, "length")

    def test_two_thousand_rows(self):
        many = [("a", number) for number in range(199)]
        self.assertEqual(len(rows_of(all_rows([A]), 100)), 101)
        flat = just([A], [A] * 5)
        self.assertEqual(rows_of(flat, 4), [])
        self.assertEqual(rows_of(flat, 100), [[A] * 5])
        ten = Machine(many[:10], [[(k, 1) for k in range(10)], [(k, 2) for k in range(10)], [(k, 3) for k in range(10)],
                                  [(0, 4), (1, 4)], []], [4])
        self.assertEqual(len(rows_of(ten, 4)), 2000)
        self.assertEqual(rows_of(ten, 4)[0], [("a", 0)] * 4)
        more = joined(ten, empty([A]))
        with self.assertRaises(TooMany) as caught:
            rows_of(more, 4)
        self.assertEqual(caught.exception.most, 2000)
        self.assertEqual(rows_of(more, 3), [[]])
        with self.assertRaises(TooMany):
            rows_of(all_rows([A, B]), 100)
        with self.assertRaises(BadNumber):
            rows_of(more, 101)

    def test_lengths(self):
        cases = [(nothing([A]), None), (empty([A]), (0, 0)), (chain(5), (5, 5)), (all_rows([]), (0, 0)),
                 (joined(chain(5), chain(2)), (2, 5)), (all_rows([A]), (0, None)), (ring(7), (0, None)),
                 (joined(chain(3), just([B], [B] * 9)), (3, 9)), (Machine([A, B], [[(0, 1)], [(1, 1)]], [1]), (1, None)),
                 (Machine([A, B], [[(0, 1), (1, 2)], [(0, 2)], [(0, 3)], []], [3]), (2, 3))]
        for machine, wanted in cases:
            self.assertEqual(lengths(machine), wanted)
            self.assertEqual(lengths(machine=machine), wanted)

    def test_lengths_by_chance(self):
        rng = some(33)
        for _ in range(300):
            machine = random_machine(rng, 2, 4)
            found = sorted(len(row) for row in rows(machine, 8))
            if not found:
                self.assertIsNone(lengths(machine))
            else:   # of 4 states: whatever has more than 3 letters has a round in it
                self.assertEqual(lengths(machine), (found[0], None if found[-1] > 3 else found[-1]))

    def test_no_machines(self):
        good = empty([A])
        for thing in ODD_VALUES + [(good.letters, good.ways, good.ends)]:
            for call in (first_row, lengths, lambda one: rows_of(one, None), lambda one: count_rows(one, None)):
                with self.assertRaises(BadMachine) as caught:
                    call(thing)
                self.assertIsNone(caught.exception.part)
            for call in (first_apart, first_beyond, is_among):
                for args in ((thing, good), (good, thing)):
                    with self.assertRaises(BadMachine) as caught:
                        call(*args)
                    self.assertIsNone(caught.exception.part)

    def test_lists_are_new(self):
        machine = just([A], [A])
        rows_of(machine, 3)[0].append(B)
        first_row(machine).append(B)
        self.assertEqual(rows_of(machine, 3), [[A]])
        self.assertEqual(first_row(machine), [A])


def without_of(many):
    """Takes all rows of a but those of a number of letters that many divides."""
    return Machine([A], [[(0, (state + 1) % many)] for state in range(many)], list(range(1, many)))


if __name__ == "__main__":
    unittest.main()
