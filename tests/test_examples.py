"""The examples of the document, e01 to e06."""
import unittest

from moststream.ends import bounds, run_out
from moststream.rows import parcel_of, row_of
from moststream.states import begun, heard, started
from moststream.streams import most, side_of, side_worth, split, worth
from moststream.webs import Web, lets, neighbours


class Examples(unittest.TestCase):
    def setUp(self):
        self.web = Web(3, ((0, 1, 3, 0), (1, 2, 2, 0)), 0, 2)

    def test_e01(self):
        self.assertEqual(neighbours(self.web, 1), (0, 2))
        self.assertEqual(lets(self.web, 0, 1), 3)
        self.assertEqual(most(self.web), 2)

    def test_e02(self):
        self.assertEqual(worth(self.web, (2, 2)), 2)
        self.assertEqual(side_of(self.web, (2, 2)), (0, 1))
        self.assertEqual(side_worth(self.web, (0, 1)), 2)
        self.assertEqual(split(self.web, (2, 2)), (((0, 1, 2), 2),))

    def test_e03(self):
        self.assertEqual(started(self.web, 0, begun(self.web, 0)),
                         (("awake", 3, -3, (3,), (0,), (0,)), ((1, ("pour", 3)),)))

    def test_e04(self):
        self.assertEqual(heard(self.web, 1, begun(self.web, 1), 0, ("pour", 3)),
                         (("awake", 1, 1, (-3, 2), (3, 0), (0, 2)),
                          ((0, ("rise", 1)), (2, ("rise", 1)), (2, ("push", 2, 1)))))

    def test_e05(self):
        self.assertEqual(run_out(self.web, ())[1], (1, 2, 2, 0, 4))
        self.assertEqual(bounds(self.web), (1, 197, 177, 20, 20))

    def test_e06(self):
        self.assertEqual(row_of((True, "a", 300)), (6, 3, 2, 5, 1, 97, 3, 172, 2))
        self.assertEqual(parcel_of((6, 3, 2, 5, 1, 97, 3, 172, 2)), (True, "a", 300))


if __name__ == "__main__":
    unittest.main()
