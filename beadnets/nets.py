"""Nets: what a move needs and does, and the beads behind a row of moves."""

from beadnets.errors import NoMove, NoNet, TooFew


def check_beads(beads, places):
    if len(beads) != places:
        raise NoNet("a list has another length than the start")
    if any([number < 0 for number in beads]):
        raise NoNet("a list has a number below nought")


def check_net(moves, start):
    places = len(start)
    check_beads(start, places)
    for takes, gives in moves:
        check_beads(takes, places)
        check_beads(gives, places)


def can_do(move, beads):
    return all([there >= taken for there, taken in zip(beads, move[0])])


def done(move, beads):
    return [there - taken + given for there, taken, given in zip(beads, move[0], move[1])]


def behind(moves, start, row):
    check_net(moves, start)
    beads = list(start)
    for spot, number in enumerate(row):
        # A number below nought would index the moves from their end.
        if number < 0 or number >= len(moves):
            raise NoMove(f"no move has the number at spot {spot} of the row")
        if not can_do(moves[number], beads):
            raise TooFew(f"the move at spot {spot} of the row can't be done")
        beads = done(moves[number], beads)
    return beads
