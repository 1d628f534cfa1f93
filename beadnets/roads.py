"""Questions: whether a dead end can be come to, how many beads a place can have, how some are come to."""

from beadnets.nets import can_do, check_beads, check_net
from beadnets.spreading import all_beads, row_between
from beadnets.sums import sum_by, sums


def row_to(entries, spot):
    return row_between([back for beads, back in entries], 0, spot)


def is_stuck(moves, beads):
    return not any([can_do(move, beads) for move in moves])


def dead_end(moves, start):
    answer = all_beads(moves, start)
    if answer[0] == "grows":
        return answer
    entries = answer[1]
    for spot, entry in enumerate(entries):
        if is_stuck(moves, entry[0]):
            return ("stuck", row_to(entries, spot))
    return ("never", entries)


def most_at(entries, place):
    numbers = [beads[place] for beads, back in entries]
    most = max(numbers)
    return (most, row_to(entries, numbers.index(most)))


def bounds(moves, start):
    answer = all_beads(moves, start)
    if answer[0] == "grows":
        return answer
    return ("bounds", [most_at(answer[1], place) for place in range(len(start))])


# Start, goal and sums often tell the answer, so that not all that can be come to is gone through.
def road_at_once(moves, start, goal):
    if goal == start:
        return ("road", [])
    for weights in sums(moves, start):
        if sum_by(weights, start) != sum_by(weights, goal):
            return ("apart", weights)
    return None


def road_to(moves, start, goal):
    check_net(moves, start)
    check_beads(goal, len(start))
    at_once = road_at_once(moves, start, goal)
    if at_once is not None:
        return at_once
    answer = all_beads(moves, start)
    if answer[0] == "grows":
        return answer
    entries = answer[1]
    for spot, entry in enumerate(entries):
        if entry[0] == goal:
            return ("road", row_to(entries, spot))
    return ("none", entries)
