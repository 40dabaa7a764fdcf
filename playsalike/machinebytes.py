"""Machines as lists of bytes, there and back."""

from playsalike.errors import BadMachine
from playsalike.kinds import SIGNS, is_list, is_within
from playsalike.machines import Machine, check_machine

FIRST_BYTE = 77


def machine_bytes(machine):
    """The list of bytes that tells the machine."""
    check_machine(machine)
    found = [FIRST_BYTE, len(machine.letters)]
    for letter in machine.letters:
        found.append(len(letter))
        for part in letter:
            found.extend(_part_bytes(part))
    found.extend(_bytes_of(len(machine.ways), 2))
    for row in machine.ways:
        found.append(len(row))
        for k, goal in row:
            found.append(k)
            found.extend(_bytes_of(goal, 2))
    found.extend(_bytes_of(len(machine.ends), 2))
    for end in machine.ends:
        found.extend(_bytes_of(end, 2))
    return found


def _part_bytes(part):
    if isinstance(part, str):
        return [len(part)] + [SIGNS.index(sign) + 97 for sign in part]
    return [0] + _bytes_of(part, 4)


def _bytes_of(number, many):
    """The number in so many bytes, the greater part first."""
    found = []
    for _ in range(many):
        number, byte = divmod(number, 256)
        found.append(byte)
    return found[::-1]


class Reader:
    """A list of bytes that is read; what is missing or wrong reads as no machine's."""

    def __init__(self, told):
        self.told = told
        self.at = 0

    def next_number(self, many):
        """The number that the next so many bytes tell; BadMachine behind the end."""
        if self.at + many > len(self.told):
            raise BadMachine(None)
        number = 0
        for byte in self.told[self.at:self.at + many]:
            number = number * 256 + byte
        self.at += many
        return number


def bytes_machine(thing):
    """The machine of which thing is the list of bytes, None if it is that of none."""
    if not is_list(thing) or not all([is_within(byte, 0, 255) for byte in thing]):
        return None
    told = list(thing)
    try:
        machine = _read_machine(Reader(told))
    except BadMachine:
        return None
    return machine if machine_bytes(machine) == told else None


def _read_machine(reader):
    reader.next_number(1)
    letters = [_read_letter(reader) for _ in range(reader.next_number(1))]
    ways = [_read_way(reader) for _ in range(reader.next_number(2))]
    ends = [reader.next_number(2) for _ in range(reader.next_number(2))]
    return Machine(letters, ways, ends)


def _read_letter(reader):
    return tuple([_read_part(reader) for _ in range(reader.next_number(1))])


def _read_part(reader):
    many = reader.next_number(1)
    if many == 0:
        return reader.next_number(4)
    return "".join([_read_sign(reader) for _ in range(many)])


def _read_sign(reader):
    number = reader.next_number(1) - 97
    if not is_within(number, 0, 25):
        raise BadMachine(None)
    return SIGNS[number]


def _read_way(reader):
    return [(reader.next_number(1), reader.next_number(2)) for _ in range(reader.next_number(1))]
