"""Point 9, stop by stop: where a lift goes next by its rule, and its direction then."""

import unittest

from liftheard.houses import House
from liftheard.rules import next_stop

HOUSE = House((3, 2, 4, 1), ())


class TestNextStop(unittest.TestCase):

    def test_sweep_upwards(self):
        self.assertEqual(next_stop(HOUSE, "sweep", 2, True, [1, 4, 3]), (3, True))
        self.assertEqual(next_stop(HOUSE, "sweep", 2, True, [0, 1]), (1, False))

    def test_sweep_downwards(self):
        self.assertEqual(next_stop(HOUSE, "sweep", 2, False, [3, 0, 1]), (1, False))
        self.assertEqual(next_stop(HOUSE, "sweep", 2, False, [4, 3]), (3, True))

    def test_sweep_on_its_own_floor(self):
        self.assertEqual(next_stop(HOUSE, "sweep", 2, True, [1, 2]), (2, True))
        self.assertEqual(next_stop(HOUSE, "sweep", 2, False, [3, 2]), (2, False))

    def test_other_rules_keep_the_direction(self):
        for is_up in (True, False):
            self.assertEqual(next_stop(HOUSE, "first", 2, is_up, [4, 1]), (4, is_up))
            self.assertEqual(next_stop(HOUSE, "near", 2, is_up, [4, 1]), (1, is_up))


if __name__ == "__main__":
    unittest.main()
