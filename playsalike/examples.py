"""Pairs of texts of pieces that do the same, and one pair that does not."""


def examples():
    """The list of the pairs of texts."""
    return [
        (
            "size 2 | name f do to do | does new b = 0 in f(b := 1); if !b = 1 then never do else skip",
            "size 2 | name f do to do | does f(never do)",
        ),
        (
            "size 3 | name x num | does new b = 0 in b := x; !b",
            "size 3 | name x num | does x",
        ),
        (
            "size 2 | name c do | name x num | does while x do c",
            "size 2 | name c do | name x num | does if x then c; while x do c else skip",
        ),
        (
            "size 2 | name x num | name y num | does x + y",
            "size 2 | name x num | name y num | does y + x",
        ),
    ]
