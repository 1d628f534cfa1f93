import copy
import itertools
import random
import unittest

import following
from beadnets.checking import is_all
from beadnets.spreading import all_beads
from following import BIG, move, ring_of_places, shift, some_net

# Three beads can be come to, the last of them by two ways.
MOVES = [shift(3, 0, 1), shift(3, 1, 2), shift(3, 0, 2), ([0, 0, 1], [0, 0, 1])]
START = [1, 0, 0]
ENTRIES = [([1, 0, 0], None), ([0, 1, 0], (0, 0)), ([0, 0, 1], (1, 1))]


def with_entry(entries, place, entry):
    return entries[:place] + [entry] + entries[place + 1:]


def searched(source, moves, start):
    """All that can be come to, in a random one of the right orders."""
    entries, places, left = [(list(start), None)], {tuple(start): 0}, [(0, number) for number in range(len(moves))]
    while left:
        spot, number = left.pop(source.randrange(len(left)))
        beads = following.after(moves, entries[spot][0], number)
        if beads is not None and tuple(beads) not in places:
            places[tuple(beads)] = len(entries)
            left.extend([(len(entries), each) for each in range(len(moves))])
            entries.append((beads, (spot, number)))
    return entries


class Asked(unittest.TestCase):
    def asked(self, moves, start, entries):
        handed_in = copy.deepcopy((moves, start, entries))
        answer = is_all(moves, start, entries)
        self.assertEqual((moves, start, entries), handed_in)
        self.assertIs(type(answer), bool)
        return answer

    def taken(self, moves, start, entries):
        self.assertTrue(self.asked(moves, start, entries))

    def not_taken(self, moves, start, entries):
        self.assertFalse(self.asked(moves, start, entries))

    def checked(self, moves, start, entries):
        try:
            following.check_entries(self, moves, start, entries)
        except AssertionError:
            return False
        return True


class Taken(Asked):
    def test_ordinary(self):
        self.taken(MOVES, START, ENTRIES)
        self.taken([shift(2, 0, 1)], [2, 0], [([2, 0], None), ([1, 1], (0, 0)), ([0, 2], (1, 0))])

    def test_another_way_back(self):
        self.taken(MOVES, START, with_entry(ENTRIES, 2, ([0, 0, 1], (0, 2))))

    def test_another_order(self):
        self.taken(MOVES, START, [([1, 0, 0], None), ([0, 0, 1], (0, 2)), ([0, 1, 0], (0, 0))])

    def test_no_moves(self):
        self.taken([], [3, 0], [([3, 0], None)])
        self.taken([], [0], [([0], None)])

    def test_moves_that_change_nothing(self):
        self.taken([([1], [1]), ([0], [0])], [1], [([1], None)])

    def test_a_move_that_can_not_be_done(self):
        self.taken([([2], [0])], [1], [([1], None)])

    def test_lists_that_are_one_and_the_same(self):
        start = [1, 0]
        self.taken([(start, start)], start, [(start, None)])

    def test_what_all_beads_tells(self):
        for moves, start in ((ring_of_places(3, BIG), [2 * BIG, 0, 0]),
                             (ring_of_places(5) + [shift(5, 3, 0)], [24, 0, 0, 0, 0]),
                             ([shift(2, 0, 1)], [20000, 0]),
                             ([move(5, [(place, 1)], []) for place in range(5)], [6, 6, 6, 6, 7])):
            entries = all_beads(moves, start)[1]
            self.taken(moves, start, entries)
            self.not_taken(moves, start, entries[:-1])
            self.not_taken(moves, start, entries + entries[-1:])


class NotTaken(Asked):
    def put(self, place, entry):
        self.not_taken(MOVES, START, with_entry(ENTRIES, place, entry))

    def test_an_empty_list(self):
        self.not_taken(MOVES, START, [])
        self.not_taken([], [0], [])

    def test_an_entry_left_out(self):
        self.not_taken(MOVES, START, ENTRIES[:1])
        self.not_taken(MOVES, START, ENTRIES[:2])
        self.not_taken(MOVES, START, ENTRIES[1:])
        # Each that is told is led to, but not all are told.
        self.not_taken(MOVES, START, [([1, 0, 0], None), ([0, 0, 1], (0, 2))])

    def test_an_entry_put_in_twice(self):
        self.not_taken(MOVES, START, ENTRIES + ENTRIES[2:])
        self.not_taken(MOVES, START, ENTRIES + [([0, 0, 1], (0, 2))])
        self.not_taken(MOVES, START, ENTRIES + ENTRIES[:1])
        self.not_taken(MOVES, START, ENTRIES + [([0, 0, 1], (2, 3))])
        self.not_taken([([0], [0])], [1], [([1], None), ([1], (0, 0))])

    def test_other_beads(self):
        for place in range(3):
            for beads in ([2, 0, 0], [0, 0, 0], [0, 1, 1], [0, 0, BIG]):
                self.put(place, (beads, ENTRIES[place][1]))
        self.not_taken(MOVES, [0, 1, 0], ENTRIES)
        self.not_taken(MOVES, START, ENTRIES + [([0, 0, 2], (2, 3))])

    def test_beads_below_nought(self):
        for place in range(3):
            for beads in ([-1, 1, 1], [1, 0, -1], [0, -BIG, 0]):
                self.put(place, (beads, ENTRIES[place][1]))
        # The move would lead there, but it can't be done.
        self.not_taken(MOVES, START, ENTRIES + [([-1, 2, 0], (1, 0))])
        self.not_taken([([2], [0])], [1], [([1], None), ([-1], (0, 0))])

    def test_another_spot(self):
        for spot in (-1, -2, -3, -BIG, 1, 2, 3, 4, BIG):
            self.put(1, ([0, 1, 0], (spot, 0)))
        for spot in (-1, -2, -3, -BIG, 0, 2, 3, 4, BIG):
            self.put(2, ([0, 0, 1], (spot, 1)))

    def test_its_own_spot_with_a_move_that_changes_nothing(self):
        self.put(2, ([0, 0, 1], (2, 3)))

    def test_a_later_spot(self):
        moves = [shift(2, 0, 1), shift(2, 1, 0)]
        entries = [([2, 0], None), ([1, 1], (2, 1)), ([0, 2], (1, 0))]
        self.not_taken(moves, [2, 0], entries)
        self.taken(moves, [2, 0], with_entry(entries, 1, ([1, 1], (0, 0))))

    def test_a_spot_below_nought_that_would_be_right_from_the_end(self):
        for place in (1, 2):
            beads, back = ENTRIES[place]
            self.put(place, (beads, (back[0] - 3, back[1])))

    def test_another_number_of_a_move(self):
        for number in (-4, -3, -1, 1, 2, 3, 4, 5, BIG, -BIG):
            self.put(1, ([0, 1, 0], (0, number)))
        for number in (-3, -2, -1, 0, 2, 3, 4, 5, BIG, -BIG):
            self.put(2, ([0, 0, 1], (1, number)))
        self.not_taken([], [1], [([1], None), ([1], (0, 0))])

    def test_a_move_that_can_not_be_done(self):
        self.not_taken([([2, 0], [1, 1])], [1, 0], [([1, 0], None), ([0, 1], (0, 0))])

    def test_none_where_a_pair_must_be(self):
        self.put(1, ([0, 1, 0], None))
        self.put(2, ([0, 0, 1], None))

    def test_a_pair_where_none_must_be(self):
        for spot, number in itertools.product((-1, 0, 1, 2, 3), (-1, 0, 1, 3, 4)):
            self.put(0, ([1, 0, 0], (spot, number)))
        self.not_taken([([0], [0])], [1], [([1], (0, 0))])

    def test_the_start_not_first(self):
        self.not_taken(MOVES, START, [ENTRIES[1], ENTRIES[0], ENTRIES[2]])
        self.not_taken([shift(2, 0, 1), shift(2, 1, 0)], [1, 0], [([0, 1], None), ([1, 0], (0, 1))])

    def test_where_beads_grow(self):
        self.not_taken([([0], [1])], [0], [([0], None)])
        self.not_taken([([0], [1])], [0], [([0], None)] + [([number], (number - 1, 0)) for number in range(1, 500)])


class Mixed(Asked):
    def test_right_orders(self):
        source = random.Random(7)
        nets = 0
        while nets < 150:
            moves, start = some_net(source, 3)
            answer = all_beads(moves, start)
            if answer[0] == "all":
                nets += 1
                self.taken(moves, start, answer[1])
                self.taken(moves, start, searched(source, moves, start))

    def test_each_other_back(self):
        moves = [shift(2, 0, 1), shift(2, 1, 0), ([1, 1], [1, 1]), ([1, 1], [0, 2])]
        entries = all_beads(moves, [2, 0])[1]
        backs = [None] + list(itertools.product(range(-4, 5), range(-5, 6)))
        found = []
        for place, back in itertools.product(range(len(entries)), backs):
            changed = with_entry(entries, place, (entries[place][0], back))
            found.append(self.checked(moves, [2, 0], changed))
            self.assertEqual(self.asked(moves, [2, 0], changed), found[-1])
        self.assertEqual(found.count(True), 4)

    def test_changed_entries(self):
        source = random.Random(8)
        found = []
        for net in range(400):
            moves, start = some_net(source, 2)
            answer = all_beads(moves, start)
            if answer[0] == "all" and len(answer[1]) < 60:
                entries = self.changed(source, copy.deepcopy(answer[1]), len(moves))
                found.append(self.checked(moves, start, entries))
                self.assertEqual(self.asked(moves, start, entries), found[-1])
        self.assertGreater(found.count(True), 10)
        self.assertGreater(found.count(False), 100)

    def changed(self, source, entries, numbers):
        place = source.randrange(len(entries))
        beads, back = entries[place]
        spot, number = back or (0, 0)
        entry = source.choice([
            (beads, (source.randint(-1, len(entries)), number)), (beads, (spot, source.randint(-1, numbers))),
            (beads, None), ([each + source.choice((-1, 0, 0, 1)) for each in beads], back),
        ])
        return source.choice([with_entry(entries, place, entry), entries[:place] + entries[place + 1:],
                              entries[:place] + [entry] + entries[place:]])


if __name__ == "__main__":
    unittest.main()
