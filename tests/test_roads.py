import copy
import random
import unittest
from unittest import mock

import following
from beadnets.roads import bounds, dead_end, road_to
from following import BIG, move, ring_of_places, shift, some_net

# Two places, from the first to the second and back.
THERE_AND_BACK = [shift(2, 0, 1), shift(2, 1, 0)]

# The one bead goes round, and each time it comes by it gives one more.
GROWING = [shift(3, 0, 1), ([0, 1, 0], [1, 0, 1])]


class Told(unittest.TestCase):
    def asked(self, question, moves, start):
        handed_in = copy.deepcopy((moves, start))
        answer = question(moves, start)
        self.assertEqual((moves, start), handed_in)
        return answer

    def end(self, expected, moves, start):
        answer = self.asked(dead_end, moves, start)
        self.assertIn(following.check_dead_end(self, moves, start, answer), expected)
        return answer

    def bound(self, numbers, moves, start):
        answer = self.asked(bounds, moves, start)
        self.assertEqual(following.check_bounds(self, moves, start, answer), "bounds")
        self.assertEqual([number for number, row in answer[1]], numbers)

    def road(self, expected, moves, start, goal):
        handed_in = copy.deepcopy((moves, start, goal))
        answer = road_to(moves, start, goal)
        self.assertEqual((moves, start, goal), handed_in)
        self.assertIn(following.check_road(self, moves, start, goal, answer), expected)
        return answer


class DeadEnds(Told):
    def test_no_moves(self):
        self.assertEqual(self.end(["stuck"], [], [3, 0]), ("stuck", []))
        self.assertEqual(self.end(["stuck"], [], [0]), ("stuck", []))

    def test_at_the_start_itself(self):
        self.assertEqual(self.end(["stuck"], [([2], [1])], [1]), ("stuck", []))
        self.assertEqual(self.end(["stuck"], [([1, 1], [0, 0]), ([0, 2], [5, 5])], [9, 0]), ("stuck", []))
        self.assertEqual(self.end(["stuck"], [([BIG], [BIG + 1])], [BIG - 1]), ("stuck", []))

    def test_behind_a_row(self):
        self.end(["stuck"], [([2], [1])], [5])
        self.end(["stuck"], [shift(3, 0, 1), shift(3, 1, 2)], [3, 0, 0])
        self.end(["stuck"], [([2, 0], [0, 1]), ([0, 2], [1, 0])], [8, 0])

    def test_behind_one_row_among_others(self):
        # Only with the third move, and only from one of the beads, the ring is left.
        self.end(["stuck"], ring_of_places(3) + [([0, 2, 0], [0, 0, 0])], [2, 0, 0])
        self.end(["never"], ring_of_places(3) + [([0, 2, 0], [0, 0, 0])], [3, 0, 0])

    def test_never(self):
        self.end(["never"], THERE_AND_BACK, [3, 0])
        self.end(["never"], ring_of_places(5), [2, 0, 0, 0, 0])
        self.end(["never"], [shift(2, 0, 1), ([0, 2], [0, 2])], [2, 0])

    def test_moves_that_change_nothing_are_no_dead_end(self):
        self.end(["never"], [([0], [0])], [0])
        self.end(["never"], [([1], [1])], [1])
        self.end(["stuck"], [([1], [1])], [0])
        self.end(["never"], [([3], [2]), ([0], [0])], [9])

    def test_where_beads_grow(self):
        self.end(["grows"], GROWING, [1, 0, 0])
        self.end(["grows"], [([0], [1])], [0])
        self.end(["grows", "stuck"], [([1], [2]), ([1], [0])], [1])
        self.end(["grows"], [([BIG, 0], [BIG, 1])], [BIG, 0])

    def test_forty_figures(self):
        self.end(["never"], ring_of_places(3, BIG), [2 * BIG, 0, 0])
        self.end(["stuck"], ring_of_places(3, BIG), [BIG - 1, BIG - 1, BIG - 1])
        self.end(["stuck"], [([BIG, 0], [0, BIG - 1])], [2 * BIG, 0])

    def test_some_twenty_thousand(self):
        self.end(["never"], ring_of_places(5) + [shift(5, 3, 0)], [24, 0, 0, 0, 0])
        self.end(["stuck"], [([1], [0])], [20000])
        self.end(["stuck"], [move(5, [(place, 1)], []) for place in range(5)], [6, 6, 6, 6, 7])


class Bounds(Told):
    def test_no_moves(self):
        self.bound([3, 0], [], [3, 0])
        self.assertEqual(bounds([], [3, 0]), ("bounds", [(3, []), (0, [])]))

    def test_ordinary(self):
        self.bound([4, 4], THERE_AND_BACK, [3, 1])
        self.bound([5, 2], [([2, 0], [0, 1])], [5, 0])
        self.bound([3, 1, 9], [([3, 0, 0], [0, 1, 0]), ([0, 1, 0], [2, 0, 9])], [3, 0, 0])

    def test_each_place_has_a_row_of_its_own(self):
        moves = [([1, 0, 0], [0, 7, 0]), ([1, 0, 0], [0, 0, 5])]
        self.bound([2, 14, 10], moves, [2, 0, 0])

    def test_the_most_on_the_way_and_not_at_its_end(self):
        self.bound([1, 9, 1], [([1, 0, 0], [0, 9, 0]), ([0, 9, 0], [0, 0, 1])], [1, 0, 0])

    def test_one_way_bars_another(self):
        self.bound([1, 3, 0], [([1, 0, 0], [0, 2, 0]), ([1, 0, 0], [0, 3, 0])], [1, 0, 0])

    def test_moves_that_change_nothing(self):
        self.bound([1, 5], [([1, 0], [1, 0]), ([0, 0], [0, 0])], [1, 5])

    def test_moves_that_can_not_be_done(self):
        self.bound([1, 0], [([2, 0], [0, 9])], [1, 0])
        self.bound([0, 0], [([1, 0], [9, 9])], [0, 0])

    def test_where_beads_grow(self):
        for moves, start in ((GROWING, [1, 0, 0]), ([([0], [1])], [0]), ([([1], [2]), ([1], [0])], [1]),
                             ([([BIG, 0], [BIG, 1])], [BIG, 0])):
            answer = self.asked(bounds, moves, start)
            self.assertEqual(following.check_bounds(self, moves, start, answer), "grows")

    def test_forty_figures(self):
        self.bound([2 * BIG, 2 * BIG, 2 * BIG], ring_of_places(3, BIG), [2 * BIG, 0, 0])
        self.bound([3, 3 * BIG], [([1, 0], [0, BIG])], [3, 0])
        self.bound([BIG, 0], [([BIG, 1], [0, BIG])], [BIG, 0])

    def test_some_twenty_thousand(self):
        self.bound([24] * 5, ring_of_places(5) + [shift(5, 3, 0)], [24, 0, 0, 0, 0])
        self.bound([20000, 20000], [shift(2, 0, 1)], [20000, 0])
        self.bound([20000, 20000], [shift(2, 0, 1, 9973), shift(2, 1, 0, 10007)], [20000, 0])


class Roads(Told):
    def test_a_goal_that_is_the_start(self):
        self.assertEqual(self.road(["road"], [], [3, 0], [3, 0]), ("road", []))
        self.road(["road"], THERE_AND_BACK, [1, 0], [1, 0])
        self.road(["road"], [([9], [9])], [0], [0])
        self.road(["road", "grows"], GROWING, [1, 0, 0], [1, 0, 0])
        start = [2, 1]
        self.road(["road"], THERE_AND_BACK, start, start)

    def test_a_road(self):
        self.road(["road"], THERE_AND_BACK, [3, 0], [0, 3])
        self.road(["road"], ring_of_places(5), [2, 0, 0, 0, 0], [0, 0, 1, 0, 1])
        self.road(["road"], [([3], [1])], [7], [1])
        self.road(["road"], [([2, 0], [0, 1]), ([0, 2], [1, 0])], [8, 0], [2, 0])

    def test_a_goal_that_sums_set_apart(self):
        self.road(["apart", "none"], [], [3, 0], [0, 3])
        self.road(["apart", "none"], THERE_AND_BACK, [3, 0], [2, 2])
        self.road(["apart", "none"], [([2, 0], [0, 3])], [4, 0], [0, 5])

    def test_a_goal_that_only_sums_of_both_signs_set_apart(self):
        # Both places get equally many, so just their difference never changes.
        self.road(["apart", "grows"], [([0, 0], [1, 1])], [0, 0], [1, 2])
        self.road(["apart", "none"], [([1, 1], [0, 0])], [4, 4], [1, 2])

    def test_a_goal_that_just_one_of_several_sums_sets_apart(self):
        moves = [shift(5, 0, 1), shift(5, 1, 0), shift(5, 2, 3)]
        for goal in ([0, 1, 0, 1, 2], [0, 2, 1, 0, 1], [0, 1, 0, 2, 1]):
            self.road(["apart", "none"], moves, [1, 0, 1, 0, 1], goal)
        self.road(["road"], moves, [1, 0, 1, 0, 1], [0, 1, 0, 1, 1])

    def test_a_goal_that_no_sums_set_apart(self):
        # Too few at first, only every second number, and just the way back.
        self.road(["none"], [([2, 0], [0, 2])], [1, 0], [0, 1])
        self.road(["none"], [([2, 0], [0, 2])], [2, 0], [1, 1])
        self.road(["none"], [shift(2, 0, 1)], [0, 1], [1, 0])
        self.road(["none"], [([1], [0])], [3], [4])
        self.road(["none"], [([1], [0])], [3], [BIG])
        self.road(["none"], [([BIG, 0], [0, BIG])], [BIG, 0], [BIG - 1, 1])

    def test_nets_with_no_weights_at_all(self):
        moves = [shift(2, 0, 1), ([0, 2], [0, 0])]
        self.road(["road"], moves, [3, 0], [0, 1])
        self.road(["road"], moves, [3, 0], [1, 0])
        self.road(["none"], moves, [3, 0], [0, 0])

    def test_where_beads_grow(self):
        self.road(["road", "grows"], GROWING, [1, 0, 0], [1, 0, 7])
        self.road(["apart", "grows"], GROWING, [1, 0, 0], [2, 0, 0])
        self.road(["grows"], [([0], [2])], [0], [5])
        self.road(["grows"], [([0], [1])], [3], [2])

    def test_forty_figures(self):
        moves = ring_of_places(3, BIG)
        self.road(["road"], moves, [2 * BIG, 0, 0], [0, BIG, BIG])
        self.road(["apart", "none"], moves, [2 * BIG, 0, 0], [0, BIG, BIG - 1])
        self.road(["none"], moves, [2 * BIG, 0, 0], [0, BIG - 1, BIG + 1])
        self.road(["apart", "none"], [([BIG, 0], [0, BIG - 1])], [BIG, 0], [0, BIG])
        self.road(["road"], [([BIG, 0], [0, BIG - 1])], [BIG, 0], [0, BIG - 1])

    def test_sums_alone_set_apart(self):
        # So there is an answer at once, also where far too many beads can be come to.
        moves = [shift(5, 0, 1), shift(5, 2, 3)]
        start = [BIG, BIG, BIG, BIG, 1]
        with mock.patch("beadnets.roads.all_beads", side_effect=AssertionError):
            for place in range(5):
                for step in (1, -1):
                    goal = list(start)
                    goal[place] += step
                    self.road(["apart"], moves, start, goal)
            self.road(["road"], moves, start, start)

    def test_some_twenty_thousand(self):
        moves = ring_of_places(5) + [shift(5, 3, 0)]
        self.road(["road"], moves, [24, 0, 0, 0, 0], [4, 5, 6, 7, 2])
        self.road(["apart", "none"], moves, [24, 0, 0, 0, 0], [4, 5, 6, 7, 3])
        self.road(["road"], [shift(2, 0, 1)], [20000, 0], [0, 20000])
        self.road(["none"], [shift(2, 0, 1)], [20000, 1], [20001, 0])


class Mixed(Told):
    def test_dead_ends_and_bounds(self):
        source = random.Random(5)
        ends = []
        for net in range(400):
            moves, start = some_net(source, 3)
            ends.append(following.check_dead_end(self, moves, start, self.asked(dead_end, moves, start)))
            told = following.check_bounds(self, moves, start, self.asked(bounds, moves, start))
            self.assertIn((ends[-1], told), (("stuck", "bounds"), ("never", "bounds"), ("grows", "grows"),
                                             ("stuck", "grows")))
        for kind in ("stuck", "never", "grows"):
            self.assertGreater(ends.count(kind), 40)

    def some_steps_on(self, source, moves, beads):
        for step in range(4):
            further = [following.after(moves, beads, number) for number in range(len(moves))]
            beads = source.choice([each for each in further if each is not None] or [beads])
        return beads

    def test_roads(self):
        source = random.Random(6)
        kinds = []
        for net in range(300):
            moves, start = some_net(source, 3)
            goals = [[source.randint(0, 4) for place in start] for goal in range(3)]
            goals.append(self.some_steps_on(source, moves, start))
            for goal in goals:
                kinds.append(following.check_road(self, moves, start, goal, road_to(moves, start, goal)))
        for kind in ("road", "apart", "none", "grows"):
            self.assertGreater(kinds.count(kind), 40)


class OwnLists(Told):
    def test_a_changed_answer_changes_nothing_handed_in(self):
        moves, start, goal = [shift(2, 0, 1), shift(2, 1, 0)], [1, 0], [1, 1]
        for question in (dead_end, lambda moves, start: road_to([([2, 0], [0, 2])], start, [0, 1])):
            for beads, back in question(moves, start)[1]:
                beads[0] = 99
        road_to(moves, start, goal)[1][0] = 99
        self.assertEqual((moves, start, goal), ([shift(2, 0, 1), shift(2, 1, 0)], [1, 0], [1, 1]))


class ChecksFindFaults(unittest.TestCase):
    """The tests above lean on these checks, so each kind of wrong answer must be seen by them."""

    def wrong(self, check, *given):
        with self.assertRaises(self.failureException):
            check(self, *given)

    def test_wrong_dead_ends(self):
        moves, start = [shift(2, 0, 1)], [2, 0]
        following.check_dead_end(self, moves, start, ("stuck", [0, 0]))
        entries = [([2, 0], None), ([1, 1], (0, 0)), ([0, 2], (1, 0))]
        for answer in (("stuck", []), ("stuck", [0]), ("stuck", [0, 0, 0]), ("stuck", (0, 0)), ["stuck", [0, 0]],
                       ("never", entries), ("never", entries[:2]), ("grows", [], [0]), ("all", entries)):
            self.wrong(following.check_dead_end, moves, start, answer)

    def test_wrong_bounds(self):
        moves, start = [shift(2, 0, 1)], [2, 0]
        following.check_bounds(self, moves, start, ("bounds", [(2, []), (2, [0, 0])]))
        for most in ([(2, []), (1, [0])], [(2, []), (3, [0, 0])], [(2, [0]), (2, [0, 0])], [(2, [])],
                     [(2, []), (2, [0, 0]), (2, [])], [[2, []], (2, [0, 0])], ((2, []), (2, [0, 0]))):
            self.wrong(following.check_bounds, moves, start, ("bounds", most))

    def test_wrong_roads(self):
        moves, start = [shift(3, 0, 1)], [1, 0, 0]
        following.check_road(self, moves, start, [0, 1, 0], ("road", [0]))
        following.check_road(self, moves, start, [1, 1, 0], ("apart", [2, 2, 5]))
        entries = [([1, 0, 0], None), ([0, 1, 0], (0, 0))]
        following.check_road(self, moves, start, [1, 1, 0], ("none", entries))
        self.wrong(following.check_road, moves, start, [0, 1, 0], ("none", entries))
        self.wrong(following.check_road, moves, start, [0, 1, 0], ("road", []))
        for answer in (("road", [0]), ("apart", [0, 0, 1]), ("apart", [1, 0, 0]), ("apart", [0, 0, 0]),
                       ("apart", [1, 1]), ("none", entries[:1]), ("grows", [], [0])):
            self.wrong(following.check_road, moves, start, [1, 1, 0], answer)


if __name__ == "__main__":
    unittest.main()
