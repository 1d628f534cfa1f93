import copy
import itertools
import random
import unittest

import following
from beadnets.errors import NetError, NoNet
from beadnets.spreading import Tree, all_beads
from following import BIG, move, ring_of_places, shift, some_net


class Told(unittest.TestCase):
    def told(self, moves, start):
        handed_in = copy.deepcopy((moves, start))
        answer = all_beads(moves, start)
        self.assertEqual((moves, start), handed_in)
        following.check_told(self, moves, start, answer)
        return answer

    def finite(self, moves, start, count):
        answer = self.told(moves, start)
        self.assertEqual(answer[0], "all")
        self.assertEqual(len(answer[1]), count)

    def grows(self, moves, start):
        self.assertEqual(self.told(moves, start)[0], "grows")


class Finite(Told):
    def test_no_moves(self):
        self.assertEqual(all_beads([], [3, 0]), ("all", [([3, 0], None)]))
        self.assertEqual(all_beads([], [0]), ("all", [([0], None)]))

    def test_one_way(self):
        expected = ("all", [([2, 0], None), ([1, 1], (0, 0)), ([0, 2], (1, 0))])
        self.assertEqual(all_beads([shift(2, 0, 1)], [2, 0]), expected)

    def test_beads_that_several_rows_lead_to_are_told_once(self):
        self.finite([move(2, [(0, 1)], []), move(2, [(1, 1)], [])], [2, 3], 12)

    def test_just_enough_and_one_too_few(self):
        moves = [([3, 2], [0, 0])]
        self.finite(moves, [3, 2], 2)
        self.finite(moves, [2, 2], 1)
        self.finite(moves, [3, 1], 1)

    def test_what_is_taken_must_be_there_before(self):
        self.finite([([1], [2])], [0], 1)
        self.finite([([5], [6])], [4], 1)
        self.finite([([3], [1])], [6], 3)

    def test_nought_beads(self):
        self.finite([([0, 1], [5, 5]), ([1, 0], [5, 5])], [0, 0], 1)
        self.finite([([0, 0], [0, 0])], [0, 0], 1)

    def test_a_ring_back_to_the_same_beads_is_no_growth(self):
        self.finite([([1], [1])], [1], 1)
        self.finite(ring_of_places(3), [1, 0, 0], 3)
        self.finite(ring_of_places(5) + [([1, 1, 0, 0, 0], [1, 1, 0, 0, 0])], [2, 0, 0, 0, 0], 15)

    def test_more_beads_than_earlier_without_a_ring_are_no_growth(self):
        # One way leads to fewer beads than the other, but neither leads on to the other one.
        self.finite([([1, 0], [0, 1]), ([1, 0], [0, 2])], [1, 0], 3)

    def test_numbers_of_forty_figures(self):
        self.finite(ring_of_places(3, BIG), [2 * BIG, 0, 0], 6)
        self.finite([([BIG, 0], [0, BIG])], [BIG, BIG], 2)
        self.finite([([BIG, 0], [0, BIG])], [BIG - 1, BIG], 1)
        self.finite([([1, 0], [0, BIG]), ([0, BIG - 1], [0, 0])], [3, 0], 10)


class Growing(Told):
    def test_growth_at_once(self):
        self.assertEqual(all_beads([([0], [1])], [0]), ("grows", [], [0]))
        self.grows([([0, 0], [0, 1])], [5, 0])
        self.grows([([1], [2])], [1])
        self.grows([([BIG], [BIG + 1])], [BIG])

    def test_growth_behind_a_row(self):
        moves = [shift(3, 0, 1), shift(3, 1, 2), ([0, 0, 2], [0, 0, 3])]
        self.grows(moves, [2, 0, 0])
        self.finite(moves, [1, 0, 0], 3)

    def test_a_ring_of_several_moves(self):
        moves = [([1, 0], [0, 3]), ([0, 2], [1, 0])]
        self.grows(moves, [1, 0])
        self.finite(moves, [0, 1], 1)
        self.grows([([1, 0], [0, 3]), ([0, 100], [50, 0])], [34, 0])

    def test_numbers_of_forty_figures(self):
        self.grows([([BIG, 0], [0, BIG]), ([0, BIG], [BIG, 1])], [BIG, 0])
        self.finite([([BIG, 0], [0, BIG]), ([0, BIG], [BIG, 1])], [BIG - 1, BIG - 1], 1)

    def test_long_ways_do_not_hide_a_short_ring(self):
        away = [move(5, [(place, 1)], []) for place in range(3)]
        self.grows(away + [([0, 0, 0, 1, 0], [0, 0, 0, 0, 2]), ([0, 0, 0, 0, 1], [0, 0, 0, 1, 0])],
                   [BIG, BIG, BIG, 1, 0])
        self.grows([shift(2, 0, 1), shift(2, 1, 0), ([0, 3], [0, 4])], [BIG, 0])

    def test_a_ring_behind_a_long_row(self):
        self.grows([shift(2, 0, 1), ([0, 20000], [0, 20001])], [20000, 0])
        self.grows([shift(2, 0, 1), ([0, 20000], [20000, 1])], [20000, 0])

    def test_a_ring_behind_more_beads_than_can_be_gone_through(self):
        stages = [shift(5, place, place + 1) for place in range(4)]
        for moves in (stages, stages[::-1]):
            self.grows(moves + [([0, 0, 0, 0, 100], [0, 0, 0, 0, 101])], [BIG, 0, 0, 0, 0])

    def test_moves_that_need_many_beads_of_each_other(self):
        stages = [move(5, [(place, 10)], [(place + 1, 1)]) for place in range(1, 4)]
        moves = [shift(5, 0, 1)] + stages + [([0, 0, 0, 0, 1], [0, 0, 0, 0, 2])]
        for order in ((1, 3, 0, 2, 4), (0, 2, 1, 4, 3)):
            self.grows([moves[number] for number in order], [BIG, 0, 0, 0, 0])

    def test_moves_that_must_be_done_in_equal_parts(self):
        moves = [shift(5, 0, place) for place in (1, 2, 3)]
        self.grows(moves + [([0, 200, 200, 200, 0], [0, 200, 200, 200, 1])], [BIG, 0, 0, 0, 0])

    def test_beads_that_must_not_be_moved_on_too_soon(self):
        stages = [shift(5, place, place + 1) for place in range(4)]
        for moves in (stages, stages[::-1]):
            self.grows(moves + [([0, 500, 0, 0, 0], [0, 501, 0, 0, 0])], [500, 0, 0, 0, 0])

    def test_a_long_ring(self):
        moves = [move(5, [(place, 10)], [(place + 1, 1)]) for place in range(4)]
        self.grows(moves + [move(5, [(4, 1)], [(0, 10001)])], [10000, 0, 0, 0, 0])

    def test_a_long_ring_up_and_down(self):
        moves, start = [shift(3, 0, 1, 997), shift(3, 1, 0, 1009)], [2005, 0, 0]
        self.finite(moves, start, 2006)
        last = all_beads(moves, start)[1][-1][0]
        self.grows(moves + [(last, [2005, 0, 1])], start)


class TwentyThousand(Told):
    def test_five_places_and_six_moves(self):
        self.finite(ring_of_places(5) + [shift(5, 3, 0)], [24, 0, 0, 0, 0], 20475)

    def test_forty_figures(self):
        self.finite(ring_of_places(4, BIG), [47 * BIG, 0, 0, 0], 19600)

    def test_one_long_row(self):
        self.finite([shift(2, 0, 1)], [20000, 0], 20001)
        self.finite([([1], [0])], [20000], 20001)

    def test_one_long_row_up_and_down(self):
        self.finite([shift(2, 0, 1, 9973), shift(2, 1, 0, 10007)], [20000, 0], 20001)

    def test_many_short_rows(self):
        self.finite([move(5, [(place, 1)], []) for place in range(5)], [6, 6, 6, 6, 7], 19208)

    def test_somewhat_beyond(self):
        self.finite([shift(2, 0, 1), shift(2, 1, 0)], [30000, 0], 30001)


class SmallNets(Told):
    def test_one_place_and_two_moves(self):
        for numbers in itertools.product(range(3), repeat=5):
            first, second = ([numbers[0]], [numbers[1]]), ([numbers[2]], [numbers[3]])
            self.told([first, second], [numbers[4]])

    def test_two_places_and_one_move(self):
        for numbers in itertools.product(range(3), repeat=6):
            moves = [(list(numbers[0:2]), list(numbers[2:4]))]
            start = list(numbers[4:6])
            answer = self.told(moves, start)
            can_grow = all(takes <= gives for takes, gives in zip(*moves[0])) and moves[0][0] != moves[0][1]
            is_done = all(takes <= there for takes, there in zip(moves[0][0], start))
            self.assertEqual(answer[0] == "grows", can_grow and is_done)

    def test_mixed_nets(self):
        source = random.Random(1)
        kinds = [self.told(*some_net(source, 3))[0] for net in range(600)]
        self.assertGreater(kinds.count("all"), 100)
        self.assertGreater(kinds.count("grows"), 100)


class LookingBack(unittest.TestCase):
    """Short ways back are looked through whole, whatever the leaps over parts of them."""

    def one_way(self, steps):
        tree = Tree([shift(2, 0, 1, 31), shift(2, 1, 0, 50)], [80, 0])
        for spot in range(steps):
            self.assertTrue(any([tree.follow(spot, number) for number in (0, 1)]))
        return tree

    def test_lower_beads_are_found_where_there_are_some(self):
        tree = self.one_way(39)
        for spot in range(40):
            for beads in itertools.product(range(0, 90, 4), repeat=2):
                lower = tree.find_lower(spot, beads)
                ways_back = [following.is_nowhere_more(each, beads) for each in tree.beads[:spot + 1]]
                self.assertEqual(lower is not None, any(ways_back))
                self.assertTrue(lower is None or ways_back[lower])


class HandedIn(Told):
    def refused(self, moves, start):
        handed_in = copy.deepcopy((moves, start))
        with self.assertRaises(NetError) as caught:
            all_beads(moves, start)
        self.assertIs(type(caught.exception), NoNet)
        self.assertEqual((moves, start), handed_in)

    def test_lists_of_another_length(self):
        for wrong in ([], [0], [0, 0, 0]):
            self.refused([(wrong, [0, 0])], [1, 1])
            self.refused([([0, 0], wrong)], [1, 1])
            self.refused([shift(2, 0, 1), ([9, 9], wrong)], [1, 1])
        self.refused([shift(2, 0, 1)], [1])
        self.refused([shift(2, 0, 1)], [1, 1, 1])

    def test_numbers_below_nought(self):
        for wrong in ([-1, 0], [0, -1], [5, -BIG]):
            self.refused([], wrong)
            self.refused([shift(2, 0, 1)], wrong)
            self.refused([(wrong, [0, 0])], [1, 1])
            self.refused([([0, 0], wrong)], [1, 1])
            self.refused([shift(2, 0, 1), ([9, 9], wrong)], [1, 1])

    def test_no_net_ahead_of_growth(self):
        self.refused([([0, 0], [1, 0]), ([9, 9], [0, -1])], [0, 0])

    def test_the_answer_has_lists_of_its_own(self):
        moves, start = [([0, 1], [1, 0])], [0, 1]
        answer = all_beads(moves, start)
        for beads, back in answer[1]:
            beads[0] = 99
        self.assertEqual((moves, start), ([([0, 1], [1, 0])], [0, 1]))
        self.assertEqual(all_beads(moves, start), ("all", [([0, 1], None), ([1, 0], (0, 0))]))


class ChecksFindFaults(unittest.TestCase):
    """The tests above lean on these checks, so each kind of wrong answer must be seen by them."""

    def wrong(self, moves, start, answer):
        with self.assertRaises(self.failureException):
            following.check_told(self, moves, start, answer)

    def test_wrong_entries(self):
        moves, start = [shift(2, 0, 1)], [2, 0]
        right = [([2, 0], None), ([1, 1], (0, 0)), ([0, 2], (1, 0))]
        following.check_told(self, moves, start, ("all", right))
        for place, entry in ((0, ([1, 1], None)), (0, ([2, 0], (0, 0))), (1, ([1, 1], None)),
                             (1, ([1, 1], [0, 0])), (1, ((1, 1), (0, 0))), (2, ([0, 2], (0, 0))),
                             (2, ([0, 2], (1, 1))), (2, ([0, 2], (-2, 0))), (2, ([1, 1], (0, 0)))):
            self.wrong(moves, start, ("all", right[:place] + [entry] + right[place + 1:]))
        self.wrong(moves, start, ("all", right[:2]))
        self.wrong(moves, start, ("all", right + right[1:2]))
        self.wrong(moves, start, ("all", right, []))
        self.wrong(moves, start, ["all", right])
        self.wrong(moves, start, ("none", right))

    def test_wrong_rings(self):
        moves, start = [shift(2, 0, 1), shift(2, 1, 0), ([0, 1], [0, 2])], [1, 0]
        following.check_told(self, moves, start, ("grows", [0], [2]))
        for row, ring in (([0], []), ([], [2]), ([], [0]), ([], [0, 1]), ([0], [-1]), ([0], [3]), ([0], (2,))):
            self.wrong(moves, start, ("grows", row, ring))


if __name__ == "__main__":
    unittest.main()
