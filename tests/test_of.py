"""Promise 4: of."""

import unittest

from tests.helper import CLEAR, INT_HIGHEST, INT_LOWEST, STATE, numbers_of, of, run, take


class Of(unittest.TestCase):
    def test_the_nineteen_states(self):
        for k in range(19):
            self.assertEqual(numbers_of(CLEAR + of(k)), [0, k])

    def test_others_are_refused(self):
        for k in (-1, 19, -2, 20, -18, 255, 256, 4096, INT_LOWEST, INT_HIGHEST):
            self.assertEqual(numbers_of(CLEAR + of(k)), [0, -1])

    def test_it_changes_nothing(self):
        told = numbers_of(CLEAR + run(b"[tr") + of(18) + of(-1) + take(STATE["word"], ord("u")) + of(0) + run(b"e]"))
        self.assertEqual(told, [0, STATE["word"], 18, -1, STATE["word"], 0, STATE["after"]])


if __name__ == "__main__":
    unittest.main()
