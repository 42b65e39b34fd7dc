"""The examples of the document, as they stand there."""

import unittest

from levelhues import errors
from levelhues.base import rows, webs
from samples import PAIRS, RING, SIDES, STAR

EXAMPLES = """
>>> [sizes((0, 1, 0, 2), 4), spread((0, 1, 0, 2), 4), is_level((0, 1, 0, 2), 3), is_level((0, 1, 0, 2), 4), level_sizes(7, 3), classes((1, 0, 1), 3)]
[(2, 1, 1, 0), 2, True, False, (3, 2, 2), ((1,), (0, 2), ())]
>>> [row_of(((2,), (0, 1))), exchanged((0, 1, 0), 3, 0, 2), renamed((3, 1, 3, 0)), are_alike((0, 1, 1), (2, 0, 0))]
[(1, 1, 0), (2, 1, 2), (0, 1, 0, 2), True]
>>> [RING.degrees, STAR.most, RING[0], RING.are_tied(4, 0), (0, 4) in RING, (4, 0) in RING, len(list(SIDES)), str(RING)]
[(2, 2, 2, 2, 2), 5, (1, 4), True, True, False, 9, 'web of 5 places, 5 ties']
>>> [(~RING).ties, Web.path(3) | Web.full(2) == PAIRS.part((0, 1, 3, 4, 5)), RING.is_apart((0, 2)), PAIRS.is_clique((3, 4, 5)), STAR.without(0) == Web(5)]
[((0, 2), (0, 3), (1, 3), (1, 4), (2, 4)), False, True, True, True]
>>> [Web(3) + Web(3) == SIDES, (SIDES - STAR).most, (SIDES & STAR).ties, RING.untied(0, 4) == Web.path(5), Web.path(3).tied(2, 0) == Web.full(3)]
[True, 3, ((0, 3), (0, 4), (0, 5)), True, True]
"""


def examples():
    """Yield each example with the line that tells its result, or None behind an assignment."""
    lines = EXAMPLES.strip().splitlines()
    for at, line in enumerate(lines):
        if line.startswith(">>> "):
            behind = lines[at + 1] if at + 1 < len(lines) else ">>> "
            yield line[len(">>> "):], None if behind.startswith(">>> ") else behind


class DocumentTest(unittest.TestCase):
    def test_examples(self):
        names = {"RING": RING, "STAR": STAR, "SIDES": SIDES, "PAIRS": PAIRS}
        for module in (errors, rows, webs):
            names.update(vars(module))
        for code, wanted in examples():
            with self.subTest(code=code):
                if wanted is None:
                    exec(code, names)
                elif wanted.startswith("raises "):
                    with self.assertRaises(getattr(errors, wanted[len("raises "):])):
                        eval(code, names)
                else:
                    self.assertEqual(repr(eval(code, names)), wanted)


if __name__ == "__main__":
    unittest.main()
