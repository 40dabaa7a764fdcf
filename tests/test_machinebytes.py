"""Point 27, second half: machines as lists of bytes, there and back."""

import unittest

from languages import A, B, random_machine
from playsalike.errors import BadMachine
from playsalike.leaving import relettered
from playsalike.machinebytes import bytes_machine, machine_bytes
from playsalike.machines import Machine
from playsalike.makers import all_rows, empty, just, nothing
from samples import ODD_VALUES, some

HAND = Machine([A, ("ab", "z", 66051)], [[(0, 1), (1, 0)], [(0, 1)]], [1])
TOLD = [77, 2, 1, 1, 97, 3, 2, 97, 98, 1, 122, 0, 0, 1, 2, 3, 0, 2, 2, 0, 0, 1, 1, 0, 0, 1, 0, 0, 1, 0, 1, 0, 1]


class MachineBytes(unittest.TestCase):
    def test_by_hand(self):
        self.assertEqual(machine_bytes(HAND), TOLD)
        self.assertEqual(machine_bytes(machine=nothing([])), [77, 0, 0, 1, 0, 0, 0])
        self.assertEqual(machine_bytes(empty([])), [77, 0, 0, 1, 0, 0, 1, 0, 0])
        self.assertEqual(bytes_machine(TOLD), HAND)
        self.assertEqual(bytes_machine(thing=tuple(TOLD)), HAND)

    def test_greatest_numbers(self):
        letters = [("abcdefgh", number) for number in range(199)] + [("z", "zzzzzzzz", 10 ** 6, 0, 255)]
        machine = just(letters, [letters[0]] * 1998 + [letters[-1]])
        told = machine_bytes(machine)
        self.assertEqual(told[1], 200)
        self.assertEqual(told[-4:], [0, 1, 1999 // 256, 1999 % 256])
        self.assertEqual(bytes_machine(told), machine)
        self.assertTrue(all(type(byte) is int and 0 <= byte <= 255 for byte in told))
        wide = all_rows([("a", number) for number in range(200)])
        self.assertEqual(bytes_machine(machine_bytes(wide)), wide)

    def test_there_and_back(self):
        rng = some(34)
        lists = {}
        for _ in range(500):
            machine = random_machine(rng)
            if rng.random() < 0.5:
                machine = relettered(machine, {machine.letters[0]: ("w", rng.randrange(10 ** 6), "x")})
            told = machine_bytes(machine)
            self.assertEqual(bytes_machine(told), machine)
            self.assertEqual(lists.setdefault(tuple(told), machine), machine)

    def test_each_byte_changed(self):
        rng = some(35)
        for machine in [HAND, empty([]), nothing([A]), just([A, B], [A, B])] + [random_machine(rng) for _ in range(12)]:
            told = machine_bytes(machine)
            for at in range(len(told)):
                for byte in set(range(8)) | {told[at] - 1, told[at] + 1, 96, 97, 122, 123, 255, 256, -1}:
                    if byte != told[at]:
                        self.check_other(machine, told[:at] + [byte] + told[at + 1:])
                self.check_other(machine, told[:at] + told[at + 1:])
                for byte in (0, 1, 97, 255):
                    if told[:at] + [byte] + told[at:] != told:
                        self.check_other(machine, told[:at] + [byte] + told[at:])
                self.assertIsNone(bytes_machine(told[:at]))
            for byte in (0, 1, 77):
                self.assertIsNone(bytes_machine(told + [byte]))

    def check_other(self, machine, told):
        """That other bytes tell none, or another machine of which they are the bytes."""
        found = bytes_machine(told)
        if found is not None:
            self.assertNotEqual(found, machine)
            self.assertEqual(machine_bytes(found), told)

    def test_forms_that_are_not_the_least(self):
        self.assertIsNone(bytes_machine([77, 0, 0, 2, 0, 0, 0, 1, 0, 0]))              # a needless state
        self.assertIsNone(bytes_machine([77, 2, 1, 1, 98, 1, 1, 97, 0, 1, 0, 0, 0]))   # letters out of order
        self.assertIsNone(bytes_machine([77, 1, 1, 1, 97, 0, 1, 1, 0, 0, 0, 0, 0]))    # a way to no end
        self.assertIsNone(bytes_machine([77, 1, 2, 1, 97, 0, 0, 15, 66, 65, 0, 1, 0, 0, 0]))   # 10 ** 6 + 1
        self.assertIsNotNone(bytes_machine([77, 1, 2, 1, 97, 0, 0, 15, 66, 64, 0, 1, 0, 0, 0]))
        self.assertIsNone(bytes_machine([77, 1, 1, 9] + [97] * 9 + [0, 1, 0, 0, 0]))   # nine signs
        self.assertIsNone(bytes_machine([77, 1, 1, 0, 0, 0, 0, 1, 0, 1, 0, 0, 0]))     # a number ahead
        self.assertIsNone(bytes_machine([77, 1, 0, 0, 1, 0, 0, 0]))                    # a letter of nothing

    def test_any_value(self):
        truth = [True if byte == 1 else byte for byte in TOLD]
        wrong = ODD_VALUES + [truth, [float(byte) for byte in TOLD], bytes(TOLD), str(TOLD), [77], [[77]], TOLD + [None],
                              {byte: 1 for byte in TOLD}, range(77, 80), [TOLD], [77, 255] + [0] * 40, [256] + TOLD[1:]]
        for thing in wrong:
            self.assertIsNone(bytes_machine(thing))

    def test_no_machines(self):
        for thing in ODD_VALUES + [TOLD]:
            with self.assertRaises(BadMachine) as caught:
                machine_bytes(thing)
            self.assertIsNone(caught.exception.part)

    def test_lists_are_new(self):
        machine_bytes(HAND).clear()
        self.assertEqual(machine_bytes(HAND), TOLD)


if __name__ == "__main__":
    unittest.main()
