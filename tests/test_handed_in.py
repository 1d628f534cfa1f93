"""Points 1 and 2 over the whole program: what every function refuses, and that it changes nothing."""

import copy
import unittest

from beadnets.checking import is_all
from beadnets.errors import NetError, NoNet
from beadnets.nets import behind
from beadnets.roads import bounds, dead_end, road_to
from beadnets.spreading import all_beads
from beadnets.sums import sums
from following import BIG, shift

MOVES = [shift(2, 0, 1), shift(2, 1, 0), ([0, 0], [0, 0])]
WRONG = ([], [0], [0, 0, 0], [-1, 0], [0, -1], [9, -BIG])

# Each function with what else is handed in to it: right, wrong, or of no account where the net is refused.
QUESTIONS = (
    (behind, [0]), (behind, [-1]), (behind, [2, 99]), (all_beads,), (sums,), (dead_end,), (bounds,),
    (road_to, [1, 1]), (road_to, [0, 2]), (road_to, [5, 5]), (road_to, [1]), (road_to, [1, -1]),
    (is_all, []), (is_all, [([1, 1], None)]), (is_all, [([-1, 0], (0, 0))]),
    (is_all, [([1, 1], None), ([0, 2], (0, 0)), ([2, 0], (0, 1))]),
)


class HandedIn(unittest.TestCase):
    def refused(self, question, *given):
        handed_in = copy.deepcopy(given)
        with self.assertRaises(NetError) as caught:
            question(*given)
        self.assertIs(type(caught.exception), NoNet)
        self.assertEqual(given, handed_in)

    def all_refuse(self, moves, start):
        for question in QUESTIONS:
            with self.subTest(question[0].__name__):
                self.refused(question[0], moves, start, *question[1:])

    def test_wrong_moves(self):
        for wrong in WRONG:
            for bad in ((wrong, [0, 0]), ([0, 0], wrong), ([99, 99], wrong), (wrong, wrong)):
                self.all_refuse([bad], [1, 1])
                for place in range(len(MOVES) + 1):
                    self.all_refuse(MOVES[:place] + [bad] + MOVES[place:], [1, 1])

    def test_wrong_starts(self):
        for wrong in ([-1, 1], [1, -1], [BIG, -BIG]):
            self.all_refuse(MOVES, wrong)
            self.all_refuse([], wrong)
        for wrong in ([1], [1, 1, 1], [1, 1, -1], []):
            self.all_refuse(MOVES, wrong)

    def test_ahead_of_growth(self):
        self.all_refuse([([0, 0], [1, 0]), ([9, 9], [0, -1])], [1, 1])
        self.all_refuse([([0, 0], [1, 0])], [1, -1])

    def test_ahead_of_a_goal_that_is_the_start_and_of_sums(self):
        for wrong in WRONG:
            self.refused(road_to, [([9, 9], wrong)], [1, 1], [1, 1])
            self.refused(road_to, [([9, 9], wrong)], [1, 1], [1, 2])
        for wrong in ([-1, 0], [0, -1]):
            self.refused(road_to, MOVES, wrong, wrong)

    def test_wrong_goals(self):
        for wrong in WRONG:
            self.refused(road_to, MOVES, [1, 1], wrong)
            self.refused(road_to, [], [1, 1], wrong)
            self.refused(road_to, [([0, 0], [1, 0])], [1, 1], wrong)
            self.refused(road_to, [([0, 0], [1, 0])], [0, 0], wrong)

    def test_a_goal_below_nought_that_the_sums_do_not_set_apart(self):
        self.refused(road_to, MOVES, [1, 1], [3, -1])
        self.refused(road_to, MOVES, [1, 1], [2, 0, 0])

    def test_nothing_is_changed(self):
        entries = [([1, 1], None), ([0, 2], (0, 0)), ([2, 0], (0, 1))]
        growing = MOVES + [([1, 0], [1, 1])]
        for question in ((behind, [0, 1, 2]), (all_beads,), (sums,), (dead_end,), (bounds,), (road_to, [0, 2]),
                         (road_to, [1, 1]), (road_to, [5, 5]), (is_all, entries), (is_all, entries[:2]), (is_all, [])):
            for moves in (MOVES, growing, []):
                for start in ([1, 1], [0, 0], [7, 0]):
                    given = copy.deepcopy((moves, start) + question[1:])
                    handed_in = copy.deepcopy(given)
                    try:
                        question[0](*given)
                    except NetError:
                        self.assertIs(question[0], behind)
                    self.assertEqual(given, handed_in)


if __name__ == "__main__":
    unittest.main()
