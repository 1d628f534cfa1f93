import copy
import itertools
import random
import unittest

import following
from beadnets.sums import sums
from following import BIG, move, ring_of_places, shift, some_net


def turned(each):
    return (each[1], each[0])


def some_big_list(source, places):
    return [source.choice((0, source.randint(0, 9), source.randint(BIG // 10, BIG))) for place in range(places)]


class Told(unittest.TestCase):
    def told(self, moves, start):
        handed_in = copy.deepcopy((moves, start))
        answer = sums(moves, start)
        self.assertEqual((moves, start), handed_in)
        following.check_sums(self, moves, start, answer)
        return answer

    def told_so_many(self, count, moves, start):
        self.assertEqual(len(self.told(moves, start)), count)


class Ordinary(Told):
    def test_one_list_of_weights(self):
        self.assertEqual(self.told([shift(2, 0, 1)], [1, 0]), [[1, 1]])
        self.assertEqual(self.told([move(2, [(0, 2)], [(1, 1)])], [1, 0]), [[1, 2]])
        self.assertEqual(self.told([move(2, [(0, 6)], [(1, 4)])], [1, 0]), [[2, 3]])
        self.assertEqual(self.told([shift(3, 0, 1), shift(3, 1, 2)], [0, 0, 0]), [[1, 1, 1]])

    def test_weights_of_both_signs(self):
        self.assertEqual(self.told([([0, 0], [1, 1])], [0, 0]), [[1, -1]])
        self.assertEqual(self.told([([0, 0], [4, 6])], [0, 0]), [[3, -2]])
        self.assertEqual(self.told([([1, 0, 0], [0, 0, 0]), ([0, 3, 0], [0, 0, 5])], [0, 0, 0]), [[0, 5, 3]])
        self.assertEqual(self.told([([1, 0, 0], [0, 0, 0]), ([0, 3, 5], [0, 0, 0])], [0, 0, 0]), [[0, 5, -3]])

    def test_the_first_that_is_not_nought_is_above_nought(self):
        for numbers in itertools.product(range(-2, 3), repeat=3):
            gains = [max(number, 0) for number in numbers]
            losses = [max(-number, 0) for number in numbers]
            self.told([(losses, gains)], [0, 0, 0])
            self.told([(gains, losses)], [0, 0, 0])

    def test_several_lists_of_weights(self):
        self.told_so_many(2, [shift(4, 0, 1), shift(4, 2, 3)], [0, 0, 0, 0])
        self.told_so_many(4, [([3, 1, 0, 0, 2], [0, 0, 7, 1, 0])], [0, 0, 0, 0, 0])
        self.told_so_many(1, ring_of_places(5), [1, 0, 0, 0, 0])

    def test_no_weights_at_all(self):
        self.assertEqual(self.told([([1], [0])], [3]), [])
        self.assertEqual(self.told([([0], [2])], [3]), [])
        self.assertEqual(self.told([shift(2, 0, 1), ([0, 1], [0, 0])], [3, 0]), [])
        self.assertEqual(self.told(ring_of_places(5) + [([0, 0, 1, 0, 0], [0, 0, 0, 0, 0])], [1, 1, 1, 1, 1]), [])

    def test_moves_that_can_not_be_done_count_too(self):
        self.assertEqual(self.told([([1], [0])], [0]), [])
        self.assertEqual(self.told([([5, 0], [0, 5])], [1, 0]), [[1, 1]])

    def test_the_start_is_of_no_account(self):
        for start in ([0, 0], [1, 0], [BIG, BIG]):
            self.assertEqual(self.told([([2, 0], [0, 3])], start), [[3, 2]])


class Edges(Told):
    def test_no_moves(self):
        for places in range(1, 6):
            self.told_so_many(places, [], [0] * places)
            self.told_so_many(places, [], [BIG] * places)

    def test_moves_that_change_nothing(self):
        self.told_so_many(3, [([0, 0, 0], [0, 0, 0])], [1, 1, 1])
        self.told_so_many(3, [([1, 2, BIG], [1, 2, BIG])], [1, 1, 1])
        self.told_so_many(2, [([1, 2, 3], [1, 2, 3]), shift(3, 2, 0), ([0, 1, 0], [0, 1, 0])], [1, 1, 1])

    def test_beads_on_both_sides_of_a_move(self):
        self.assertEqual(self.told([([5, 1], [3, 2])], [0, 0]), [[1, 2]])

    def test_moves_that_stand_several_times(self):
        self.told_so_many(2, [shift(3, 0, 1)] * 6, [1, 0, 0])
        self.told_so_many(2, [shift(3, 0, 1, number) for number in (1, 2, 3, BIG)], [1, 0, 0])

    def test_moves_that_are_turned(self):
        first, second = ([3, 0, 1, 0], [0, 2, 0, 0]), ([0, 0, 4, 1], [1, 1, 0, 6])
        self.told_so_many(2, [first, turned(first), second, turned(second)], [1, 1, 1, 1])

    def test_moves_that_are_put_together_of_others(self):
        first, second = ([3, 0, 1, 0, 0], [0, 2, 0, 0, 5]), ([0, 0, 4, 1, 1], [1, 1, 0, 6, 0])
        for times in range(4):
            for more in range(4):
                both = ([times * one + more * two for one, two in zip(first[0], second[0])],
                        [times * one + more * two for one, two in zip(first[1], second[1])])
                self.told_so_many(3, [first, second, both, turned(both)], [0] * 5)
                self.told_so_many(3, [both, turned(first), second], [0] * 5)

    def test_put_together_by_fractions_alone(self):
        # Twice the third is the sum of the first two, which are both odd.
        moves = [([3, 0, 0], [0, 1, 1]), ([1, 0, 0], [0, 1, 3]), ([2, 0, 0], [0, 1, 2])]
        for order in itertools.permutations(moves):
            self.told_so_many(1, list(order), [0, 0, 0])

    def test_numbers_of_forty_figures(self):
        self.assertEqual(self.told([([BIG, 0], [0, BIG - 1])], [0, 0]), [[BIG - 1, BIG]])
        self.assertEqual(self.told([([BIG, 0], [0, BIG])], [0, 0]), [[1, 1]])
        self.assertEqual(self.told([([BIG, BIG], [0, 0])], [0, 0]), [[1, -1]])
        self.assertEqual(self.told([([BIG, 0], [0, BIG]), ([BIG, 0], [0, BIG - 1])], [0, 0]), [])

    def test_many_numbers_of_forty_figures(self):
        source = random.Random(3)
        for net in range(300):
            places = source.randint(1, 5)
            moves = [(some_big_list(source, places), some_big_list(source, places))
                     for number in range(source.randint(0, 6))]
            self.told(moves, some_big_list(source, places))

    def test_moves_that_are_close_to_dependent(self):
        for number in (BIG, BIG - 1, 10 ** 39, 2 ** 130):
            self.told_so_many(1, [([number, 0], [0, number + 1])], [0, 0])
            self.told_so_many(0, [([number, 0], [0, number + 1]), ([number - 1, 0], [0, number])], [0, 0])

    def test_somewhat_beyond_the_bounds(self):
        self.told_so_many(1, ring_of_places(9) + ring_of_places(9, 10 ** 60), [0] * 9)


class Many(Told):
    def test_mixed_nets(self):
        source = random.Random(2)
        counts = [len(self.told(*some_net(source, 3))) for net in range(1500)]
        for count in range(5):
            self.assertGreater(counts.count(count), 20)

    def test_nets_with_dependent_moves(self):
        source = random.Random(4)
        for net in range(500):
            moves, start = some_net(source, 3)
            for each in list(moves[:2]):
                moves.append(turned(each))
                moves.append(([2 * number for number in each[0]], [2 * number for number in each[1]]))
            source.shuffle(moves)
            self.told(moves, start)

    def test_the_answer_has_lists_of_its_own(self):
        moves, start = [([2, 0], [0, 2])], [4, 0]
        for weights in sums(moves, start):
            weights[0] = 99
        self.assertEqual((moves, start), ([([2, 0], [0, 2])], [4, 0]))
        self.assertEqual(sums(moves, start), [[1, 1]])


class ChecksFindFaults(unittest.TestCase):
    """The tests above lean on these checks, so each kind of wrong answer must be seen by them."""

    def test_wrong_sums(self):
        moves, start = [shift(3, 0, 1)], [1, 0, 0]
        for right in ([[1, 1, 0], [0, 0, 1]], [[1, 1, 1], [1, 1, -1]], [[0, 0, 1], [2, 2, 3]]):
            following.check_sums(self, moves, start, right)
        for wrong in ([], [[1, 1, 0]], [[1, 1, 0], [1, 1, 0]], [[1, 1, 0], [0, 0, 1], [1, 1, 1]],
                      [[1, 1, 0], [0, 0, 2]], [[1, 1, 0], [0, 0, -1]], [[1, 1, 0], [0, 0, 0]],
                      [[1, 1, 0], [1, 0, 1]], [[1, 1, 0], [0, 0]], [[1, 1, 0], (0, 0, 1)], [[1, 1, 0], [0, 0, True]]):
            with self.assertRaises(self.failureException):
                following.check_sums(self, moves, start, wrong)


if __name__ == "__main__":
    unittest.main()
