import copy
import itertools
import unittest

import following
from beadnets.errors import NetError, NoMove, NoNet, TooFew
from beadnets.nets import behind
from following import BIG

# Two moves of one place to another and back, and one that nothing is needed for.
SWAP = [([1, 0], [0, 1]), ([0, 1], [1, 0]), ([0, 0], [1, 0])]


class Net(unittest.TestCase):
    def refused(self, error, moves, start, row):
        handed_in = copy.deepcopy((moves, start, row))
        with self.assertRaises(NetError) as caught:
            behind(moves, start, row)
        self.assertIs(type(caught.exception), error)
        self.assertEqual((moves, start, row), handed_in)


class Rows(Net):
    def test_a_row_is_done_move_by_move(self):
        moves = [([2, 0, 0], [0, 1, 0]), ([0, 1, 0], [0, 0, 3]), ([1, 0, 1], [1, 1, 0])]
        self.assertEqual(behind(moves, [5, 0, 0], [0]), [3, 1, 0])
        self.assertEqual(behind(moves, [5, 0, 0], [0, 0, 1]), [1, 1, 3])
        self.assertEqual(behind(moves, [5, 0, 0], [0, 0, 1, 2, 2]), [1, 3, 1])

    def test_the_empty_row_leads_to_the_start(self):
        self.assertEqual(behind([], [3, 0], []), [3, 0])
        self.assertEqual(behind(SWAP, [3, 0], []), [3, 0])

    def test_the_answer_is_a_list_of_its_own(self):
        start = [3, 0]
        for row in ([], [0]):
            answer = behind(SWAP, start, row)
            self.assertIs(type(answer), list)
            answer[0] = 99
            self.assertEqual(start, [3, 0])
        gives = [1, 1]
        answer = behind([([0, 0], gives)], [0, 0], [0])
        answer[0] = 99
        self.assertEqual(gives, [1, 1])

    def test_nothing_handed_in_is_changed(self):
        moves, start, row = copy.deepcopy(SWAP), [2, 1], [0, 1, 2, 0]
        behind(moves, start, row)
        self.assertEqual((moves, start, row), (SWAP, [2, 1], [0, 1, 2, 0]))

    def test_lists_that_are_one_and_the_same(self):
        beads = [2, 1]
        self.assertEqual(behind([(beads, beads)], beads, [0, 0]), [2, 1])

    def test_numbers_of_forty_figures(self):
        moves = [([BIG, 1], [0, BIG]), ([0, BIG], [1, 0])]
        self.assertEqual(behind(moves, [BIG, 1], [0]), [0, BIG])
        self.assertEqual(behind(moves, [BIG, 1], [0, 1]), [1, 0])
        self.refused(TooFew, moves, [BIG - 1, 1], [0])
        self.assertEqual(behind([([0], [BIG])], [BIG], [0] * 100), [101 * BIG])

    def test_five_places_six_moves_and_a_row_of_a_hundred(self):
        moves = [following.shift(5, place, (place + 1) % 5) for place in range(5)]
        moves.append(([0, 0, 0, 0, 0], [0, 0, 0, 0, 1]))
        row = [0, 1, 2, 3, 4] * 16 + [5] * 20
        self.assertEqual(len(row), 100)
        self.assertEqual(behind(moves, [1, 0, 0, 0, 7], row), [1, 0, 0, 0, 27])
        self.assertEqual(behind(moves, [1, 0, 0, 0, 7], row * 20), [1, 0, 0, 0, 407])


class Moves(Net):
    def test_just_enough_and_one_too_few(self):
        moves = [([3, 2, 1], [0, 0, 9])]
        self.assertEqual(behind(moves, [3, 2, 1], [0]), [0, 0, 9])
        for place in range(3):
            start = [3, 2, 1]
            start[place] -= 1
            self.refused(TooFew, moves, start, [0])

    def test_more_elsewhere_does_not_help(self):
        self.refused(TooFew, [([1, 1], [0, 0])], [9, 0], [0])

    def test_what_is_taken_must_be_there_before(self):
        self.refused(TooFew, [([1], [1])], [0], [0])
        self.refused(TooFew, [([2], [5])], [1], [0])
        self.assertEqual(behind([([1], [1])], [1], [0, 0, 0]), [1])
        self.assertEqual(behind([([2], [5])], [2], [0, 0]), [8])
        self.assertEqual(behind([([4, 0], [1, 0])], [4, 0], [0]), [1, 0])
        self.refused(TooFew, [([4, 0], [1, 0])], [4, 0], [0, 0])

    def test_nought_beads(self):
        self.assertEqual(behind([([0, 0], [0, 0])], [0, 0], [0]), [0, 0])
        self.assertEqual(behind([([0, 0], [0, 2])], [0, 0], [0, 0]), [0, 4])
        self.refused(TooFew, [([0, 1], [0, 0])], [0, 0], [0])

    def test_too_few_only_later_in_the_row(self):
        self.assertEqual(behind(SWAP, [2, 0], [0, 0]), [0, 2])
        self.refused(TooFew, SWAP, [2, 0], [0, 0, 0])

    def test_all_moves_of_two_places(self):
        numbers = list(itertools.product(range(3), repeat=2))
        for start, takes, gives in itertools.product(numbers, repeat=3):
            net = [(list(takes), list(gives))]
            expected = following.after(net, list(start), 0)
            if expected is None:
                self.refused(TooFew, net, list(start), [0])
            else:
                self.assertEqual(behind(net, list(start), [0]), expected)


class Refusals(Net):
    def test_numbers_of_no_move(self):
        for number in (3, 4, -1, -2, -3, -4, BIG, -BIG):
            self.refused(NoMove, SWAP, [9, 9], [number])
            self.refused(NoMove, SWAP, [9, 9], [0, 1, number, 0])
        for number in (0, 1, -1):
            self.refused(NoMove, [], [9, 9], [number])

    def test_whichever_is_come_to_first(self):
        self.refused(TooFew, SWAP, [1, 0], [0, 0, 3])
        self.refused(TooFew, SWAP, [1, 0], [0, 0, -1])
        self.refused(NoMove, SWAP, [1, 0], [0, 3, 0])
        self.refused(NoMove, SWAP, [1, 0], [0, -1, 0])
        self.refused(NoMove, SWAP, [1, 0], [-3, 1])

    def test_lists_of_another_length(self):
        for wrong in ([], [1], [1, 0, 0]):
            self.refused(NoNet, [(wrong, [0, 1])], [1, 0], [0])
            self.refused(NoNet, [([1, 0], wrong)], [1, 0], [0])
            self.refused(NoNet, SWAP + [(wrong, wrong)], [1, 0], [0])
        self.refused(NoNet, SWAP, [1], [])
        self.refused(NoNet, SWAP, [1, 0, 0], [])

    def test_numbers_below_nought(self):
        for wrong in ([-1, 0], [0, -1], [5, -BIG]):
            self.refused(NoNet, SWAP, wrong, [])
            self.refused(NoNet, [], wrong, [])
            self.refused(NoNet, [(wrong, [0, 0])], [9, 9], [0])
            self.refused(NoNet, [([0, 0], wrong)], [9, 9], [0])

    def test_no_net_also_for_a_move_that_is_never_done(self):
        for wrong in ([-1, 0], [0, -1], [0], [0, 0, 0]):
            for number in (0, 1, 2):
                for bad in ((wrong, [0, 0]), ([0, 0], wrong), ([99, 0], wrong)):
                    moves = copy.deepcopy(SWAP)
                    moves.insert(number, bad)
                    self.refused(NoNet, moves, [1, 0], [])

    def test_no_net_ahead_of_all_else(self):
        bad = SWAP + [([0, 0], [0, -1])]
        self.refused(NoNet, bad, [0, 0], [0])
        self.refused(NoNet, bad, [0, 0], [99])
        self.refused(NoNet, SWAP, [-1, 0], [0])
        self.refused(NoNet, SWAP, [-1, 0], [-1])
        self.refused(NoNet, [], [0, -1], [0])


if __name__ == "__main__":
    unittest.main()
