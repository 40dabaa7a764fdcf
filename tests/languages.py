"""A second plain way to the rows of machines: sets of rows up to some length."""

from itertools import product

from playsalike.machines import Machine

A, B, C, D = ("a",), ("b",), ("c",), ("d", 1)
ALL = (A, B, C, D)


def random_machine(rng, most_letters=3, most_states=4, dense=0.6):
    letters = sorted(rng.sample(ALL, rng.randint(1, most_letters)), key=ALL.index)
    many = rng.randint(1, most_states)
    ways = [[(k, rng.randrange(many)) for k in range(len(letters)) if rng.random() < dense]
            for _ in range(many)]
    ends = [state for state in range(many) if rng.random() < 0.4]
    return Machine(letters, ways, ends)


def is_taken(letters, ways, ends, row):
    """Whether what is told of a machine, in least form or not, takes the row."""
    state = 0
    for letter in row:
        goals = dict(ways[state])
        if letter not in letters or list(letters).index(letter) not in goals:
            return False
        state = goals[list(letters).index(letter)]
    return state in ends


def accepts(machine, row):
    return is_taken(machine.letters, machine.ways, machine.ends, row)


def all_rows_of(letters, most):
    """All rows of these letters of at most so many."""
    return [row for many in range(most + 1) for row in product(letters, repeat=many)]


def rows(machine, most):
    """The set of the rows of at most so many letters that the machine takes."""
    return {row for row in all_rows_of(machine.letters, most) if accepts(machine, row)}


def least_count(letters, ways, ends):
    """How many states the least form has, told by filling a table of unlike states."""
    many = len(ways) + 1
    goals = [[dict(row).get(k, many - 1) for k in range(len(letters))] for row in ways]
    goals.append([many - 1] * len(letters))
    unlike = {(p, q) for p in range(many) for q in range(many) if (p in ends) != (q in ends)}
    grown = True
    while grown:
        grown = False
        for p, q in product(range(many), repeat=2):
            if (p, q) not in unlike and any(pair in unlike for pair in zip(goals[p], goals[q])):
                unlike.add((p, q))
                grown = True
    reached, waiting = {0}, [0]
    while waiting:
        for goal in goals[waiting.pop()]:
            if goal not in reached:
                reached.add(goal)
                waiting.append(goal)
    useful = [state for state in sorted(reached) if (state, many - 1) in unlike]
    told = []
    for state in useful:
        if all((state, other) in unlike for other in told):
            told.append(state)
    return max(1, len(told))


def check_least(test, machine):
    """That the machine is in its least form, numbered as states are first met."""
    test.assertIs(type(machine.letters), tuple)
    test.assertIs(type(machine.ways), tuple)
    test.assertIs(type(machine.ends), tuple)
    test.assertTrue(all(type(row) is tuple and all(type(pair) is tuple for pair in row) for row in machine.ways))
    test.assertEqual(len(machine.ways), least_count(machine.letters, machine.ways, machine.ends))
    met = [0]
    for state in range(len(machine.ways)):
        test.assertEqual([k for k, _ in machine.ways[state]], sorted({k for k, _ in machine.ways[state]}))
        for _, goal in machine.ways[state]:
            if goal not in met:
                met.append(goal)
    test.assertEqual(met, list(range(len(machine.ways))))
    test.assertEqual(list(machine.ends), sorted(set(machine.ends)))
    test.assertEqual(Machine(machine.letters, machine.ways, machine.ends), machine)


def counting(letter, last):
    """Takes rows of a and b with last behind, in which letter stands 139 times or more."""
    k = (A, B).index(letter)
    ways = [sorted([(k, min(at + 1, 139)), (1 - k, at)]) for at in range(140)]
    ways[139].append((2, 140))
    return Machine([A, B, last], ways + [[]], [140])
