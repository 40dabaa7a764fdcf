"""Point 85: the examples, as they stand in the document."""

import unittest

from playsalike.examples import examples

TEXTS = """size 2 | name f do to do | does new b = 0 in f(b := 1); if !b = 1 then never do else skip
size 2 | name f do to do | does f(never do)
size 3 | name x num | does new b = 0 in b := x; !b
size 3 | name x num | does x
size 2 | name c do | name x num | does while x do c
size 2 | name c do | name x num | does if x then c; while x do c else skip
size 2 | name x num | name y num | does x + y
size 2 | name x num | name y num | does y + x""".split("\n")


class Examples(unittest.TestCase):
    def test_as_they_stand(self):
        self.assertEqual(examples(), [(TEXTS[at], TEXTS[at + 1]) for at in range(0, 8, 2)])

    def test_pairs_in_a_new_list(self):
        examples().clear()
        self.assertEqual(len(examples()), 4)
        for pair in examples():
            self.assertIs(type(pair), tuple)
            self.assertEqual(len(pair), 2)


if __name__ == "__main__":
    unittest.main()
