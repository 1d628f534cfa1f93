"""What can be come to: all beads, or a row and a ring that show that they grow."""

from beadnets.nets import can_do, check_net, done

# Where beads don't grow, the wide search ends by itself ahead of this many, and no dive is begun.
FIRST_LIMIT = 25000

# There are several dives; each gets this part of the wide search's beads, so that none starves it.
DIVE_PART = 4

# Long ways back are looked through in part only. Every so many steps the whole way is, so that
# no growth is missed for good: an endless way has a ring from one of these steps to another.
FEW_LOOKS = 40
WHOLE_WAY_EACH = 256


def nowhere_more(some, others):
    return all([one <= other for one, other in zip(some, others)])


def fewest_of(one, two, three):
    return tuple([min(numbers) for numbers in zip(one, two, three)])


def looks_at(depth):
    if depth % WHOLE_WAY_EACH == 0:
        return depth + 1
    return FEW_LOOKS


def row_between(backs, first, last):
    row = []
    while last != first:
        row.append(backs[last][1])
        last = backs[last][0]
    row.reverse()
    return row


# Beads that can be come to, each once, with the way back to the start.
class Tree:
    def __init__(self, moves, start):
        self.moves = moves
        self.beads = [tuple(start)]
        self.back = [None]
        self.known = {tuple(start): True}
        self.ring = None
        # A leap leads from a spot to one further back. Whether it leaps over something of use is
        # seen by the fewest beads of each place, from the spot itself to just ahead of the leap's end.
        self.depth = [0]
        self.leap = [0]
        self.fewest = [tuple(start)]

    # Tells the new spot, or None where the move can't be done or leads to nothing new.
    def follow(self, spot, number):
        move = self.moves[number]
        if not can_do(move, self.beads[spot]):
            return None
        beads = tuple(done(move, self.beads[spot]))
        if beads in self.known:
            return None
        lower = self.find_lower(spot, beads)
        self.keep(spot, number, beads)
        if lower is not None:
            self.ring = (lower, len(self.beads) - 1)
        return len(self.beads) - 1

    # These beads are new, so beads on the way back that are nowhere more are other ones: a ring.
    def find_lower(self, spot, beads):
        looks = looks_at(self.depth[spot])
        while looks > 0:
            if nowhere_more(self.beads[spot], beads):
                return spot
            if spot == 0:
                return None
            if nowhere_more(self.fewest[spot], beads):
                spot = self.back[spot][0]
            else:
                spot = self.leap[spot]
            looks -= 1
        return None

    def keep(self, spot, number, beads):
        self.known[beads] = True
        self.beads.append(beads)
        self.back.append((spot, number))
        self.depth.append(self.depth[spot] + 1)
        middle = self.leap[spot]
        end = self.leap[middle]
        # Two leaps of one length are joined, so that few leaps lead over a long way.
        if self.depth[spot] - self.depth[middle] == self.depth[middle] - self.depth[end]:
            self.leap.append(end)
            self.fewest.append(fewest_of(beads, self.fewest[spot], self.fewest[middle]))
        else:
            self.leap.append(spot)
            self.fewest.append(beads)

    def tell_all(self):
        return ("all", [(list(beads), back) for beads, back in zip(self.beads, self.back)])

    def tell_growth(self):
        lower = self.ring[0]
        return ("grows", row_between(self.back, 0, lower), row_between(self.back, lower, self.ring[1]))


# Goes on from the beads in the order in which they were found: it finds all there are, and is
# never lured into a long way where a short one shows that beads grow.
class Wide:
    def __init__(self, moves, start):
        self.tree = Tree(moves, start)
        self.spot = 0

    def is_through(self):
        return self.spot == len(self.tree.beads)

    def search(self, limit):
        tree = self.tree
        while not self.is_through() and len(tree.beads) < limit:
            for number in range(len(tree.moves)):
                tree.follow(self.spot, number)
                if tree.ring is not None:
                    return
            self.spot += 1


# Goes on from the beads found last: it finds a ring behind a long row, where the wide search
# would have to go through too many beads first.
class Dive:
    def __init__(self, moves, start, order, is_fair):
        self.tree = Tree(moves, start)
        self.order = order
        self.is_fair = is_fair
        self.times = [0 for move in moves]
        self.way = [0]
        self.untried = [self.choices()]

    # The move to be tried first stands last, to be popped. A fair dive tries first what it did the
    # fewest times, so that it doesn't do one move for ever where the ring needs others too.
    def choices(self):
        numbers = list(self.order)
        if self.is_fair:
            numbers = sorted(numbers, key=lambda number: self.times[number])
        numbers.reverse()
        return numbers

    def search(self, limit):
        tree = self.tree
        while len(self.way) > 0 and tree.ring is None and len(tree.beads) < limit:
            if len(self.untried[-1]) > 0:
                self.go_on(self.untried[-1].pop())
            else:
                self.way.pop()
                self.untried.pop()

    def go_on(self, number):
        spot = self.tree.follow(self.way[-1], number)
        if spot is not None:
            self.times[number] += 1
            self.way.append(spot)
            self.untried.append(self.choices())


def gains(move):
    return any([given > taken for taken, given in zip(move[0], move[1])])


# A move that gains nowhere is left out: without it the other moves of a row and a ring can be
# done all the same, and the ring gains no less.
def make_dives(moves, start):
    order = [number for number, move in enumerate(moves) if gains(move)]
    turned = [order[cut:] + order[:cut] for cut in range(len(order))]
    dives = [Dive(moves, start, order, True)]
    dives.extend([Dive(moves, start, numbers, False) for numbers in turned])
    return dives


def all_beads(moves, start):
    check_net(moves, start)
    wide = Wide(moves, start)
    dives = make_dives(moves, start)
    limit = FIRST_LIMIT
    while True:
        wide.search(limit)
        if wide.tree.ring is not None:
            return wide.tree.tell_growth()
        if wide.is_through():
            return wide.tree.tell_all()
        for dive in dives:
            dive.search(limit // DIVE_PART)
            if dive.tree.ring is not None:
                return dive.tree.tell_growth()
        limit *= 2
