"""Point 85: the examples, as they stand in the document."""

import unittest

from playsalike.alike import same
from playsalike.arounds import ended_around
from playsalike.examples import examples
from playsalike.partings import parting
from playsalike.parters import parter
from playsalike.piecetexts import piece_of_text, piece_text

TEXTS = """size 2 | name f do to do | does new b = 0 in f(b := 1); if !b = 1 then never do else skip
size 2 | name f do to do | does f(never do)
size 3 | name x num | does new b = 0 in b := x; !b
size 3 | name x num | does x
size 2 | name c do | name x num | does while x do c
size 2 | name c do | name x num | does if x then c; while x do c else skip
size 2 | name x num | name y num | does x + y
size 2 | name x num | name y num | does y + x""".split("\n")


class Examples(unittest.TestCase):
    def test_as_they_stand(self):
        self.assertEqual(examples(), [(TEXTS[at], TEXTS[at + 1]) for at in range(0, 8, 2)])

    def test_pairs_in_a_new_list(self):
        examples().clear()
        self.assertEqual(len(examples()), 4)
        for pair in examples():
            self.assertIs(type(pair), tuple)
            self.assertEqual(len(pair), 2)

    def test_they_are_texts_in_the_one_form(self):
        for pair in examples():
            for text in pair:
                self.assertEqual(piece_text(piece_of_text(text)), text)

    def test_facts(self):
        pairs = [[piece_of_text(text) for text in pair] for pair in examples()]
        self.assertEqual([same(*pair) for pair in pairs], [True, True, True, False])
        for pair in pairs[:3]:
            self.assertIsNone(parting(*pair))
            self.assertIsNone(parter(*pair))
        play, which = parting(*pairs[3])
        self.assertEqual((play[:2], which), ((("ask",), ("call", "x")), 0))
        around, which = parter(*pairs[3])
        self.assertEqual([ended_around(one, around, 10 ** 5)[0] for one in pairs[3]], ["do", "on"])
        self.assertEqual(which, 0)


if __name__ == "__main__":
    unittest.main()
