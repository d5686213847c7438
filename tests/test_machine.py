import unittest

from fighterbreeding.machine import Ring, has_ended, run_to_end, take_turn


def ring_with(cells, hands, turn=0, left=10, most=2):
    ring = [(0, 0, 0)] * 8
    for place, cell in cells.items():
        ring[place] = cell
    return Ring(ring, [list(row) for row in hands], turn, left, most)


class OrdersTest(unittest.TestCase):
    def check(self, cells, hands, changes, row, most=2):
        """One turn of fighter 0: the cells that change, and its row of hands behind it."""
        ring = ring_with(cells, hands, most=most)
        expected = list(ring.cells)
        for place, cell in changes.items():
            expected[place] = cell
        take_turn(ring)
        self.assertEqual(ring.cells, expected)
        self.assertEqual(ring.hands, [row, hands[1]])
        self.assertEqual((ring.turn, ring.left), (1, 9))

    def test_die(self):
        self.check({1: (0, 3, 3)}, [[1, 5], [4]], {}, [5])
        self.check({1: (0, 3, 3)}, [[1], [4]], {}, [])

    def test_copy(self):
        self.check({1: (1, 2, 3), 3: (5, 6, 7)}, [[1], [0]], {4: (5, 6, 7)}, [2])

    def test_copy_round_the_ring(self):
        self.check({7: (1, 0, 2)}, [[7], [0]], {1: (1, 0, 2)}, [0])

    def test_add_changes_the_number_b_alone(self):
        self.check({1: (2, 1, 2), 2: (6, 4, 5), 3: (7, 1, 6)}, [[1], [0]], {3: (7, 1, 3)}, [2])

    def test_add_of_a_cell_to_itself(self):
        self.check({1: (2, 4, 4), 5: (3, 2, 7)}, [[1], [0]], {5: (3, 2, 6)}, [2])

    def test_add_to_the_order_itself(self):
        self.check({1: (2, 1, 0), 2: (0, 0, 3)}, [[1], [0]], {1: (2, 1, 3)}, [2])

    def test_go(self):
        self.check({6: (3, 5, 0)}, [[6, 2], [0]], {}, [2, 3])

    def test_go_if(self):
        self.check({1: (4, 3, 2), 3: (0, 7, 1)}, [[1], [0]], {}, [4])
        self.check({1: (4, 3, 2), 3: (7, 7, 0)}, [[1], [0]], {}, [2])

    def test_fork(self):
        self.check({1: (5, 3, 2)}, [[1], [0]], {}, [2, 4])
        self.check({1: (5, 3, 2)}, [[1, 6], [0]], {}, [6, 2])
        self.check({1: (5, 3, 2)}, [[1, 6], [0]], {}, [6, 2, 4], most=3)
        self.check({1: (5, 3, 2)}, [[1], [0]], {}, [2], most=1)
        self.check({7: (5, 7, 2)}, [[7, 1, 2], [0]], {}, [1, 2, 0, 6], most=4)

    def test_set(self):
        self.check({1: (6, 2, 7), 3: (5, 4, 1)}, [[1], [0]], {3: (5, 4, 7)}, [2])
        self.check({6: (6, 4, 5), 2: (1, 1, 1)}, [[6], [0]], {2: (1, 1, 5)}, [7])

    def test_swap(self):
        self.check({1: (7, 2, 4), 3: (5, 4, 1), 5: (6, 1, 2)}, [[1], [0]], {3: (6, 1, 2), 5: (5, 4, 1)}, [2])
        self.check({1: (7, 3, 3), 4: (5, 4, 1)}, [[1], [0]], {}, [2])
        self.check({1: (7, 0, 1), 2: (5, 4, 1)}, [[1], [0]], {1: (5, 4, 1), 2: (7, 0, 1)}, [2])


class TurnsTest(unittest.TestCase):
    def test_the_other_fighter_takes_its_first_hand(self):
        ring = ring_with({3: (3, 0, 0), 4: (3, 2, 0)}, [[3], [4, 1]], turn=1)
        take_turn(ring)
        self.assertEqual((ring.hands, ring.turn, ring.left), ([[3], [1, 6]], 0, 9))

    def test_when_it_has_ended(self):
        self.assertFalse(has_ended(ring_with({}, [[0], [1]], left=1)))
        self.assertTrue(has_ended(ring_with({}, [[0], [1]], left=0)))
        self.assertTrue(has_ended(ring_with({}, [[], [1]])))
        self.assertTrue(has_ended(ring_with({}, [[0], []])))

    def test_nothing_happens_behind_the_end(self):
        ring = ring_with({2: (3, 0, 0)}, [[2], [5]], turn=1)
        run_to_end(ring)
        self.assertEqual((ring.hands, ring.turn, ring.left), ([[2], []], 0, 9))
        run_to_end(ring)
        self.assertEqual((ring.hands, ring.turn, ring.left), ([[2], []], 0, 9))

    def test_all_turns_are_done(self):
        ring = ring_with({2: (3, 0, 0), 5: (3, 1, 0), 6: (3, 7, 0)}, [[2], [5]], left=7)
        run_to_end(ring)
        self.assertEqual((ring.hands, ring.turn, ring.left), ([[2], [6]], 1, 0))


if __name__ == "__main__":
    unittest.main()
