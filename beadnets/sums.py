"""Sums that never change: weights by which each move gives as much as it takes."""

from beadnets.nets import check_net


def sum_by(weights, beads):
    return sum([weight * number for weight, number in zip(weights, beads)])


def change_by(weights, move):
    return sum_by(weights, move[1]) - sum_by(weights, move[0])


def common_divisor(numbers):
    divisor = 0
    for number in numbers:
        other = abs(number)
        while other != 0:
            rest = divisor % other
            divisor = other
            other = rest
    return divisor


def first_not_nought(numbers):
    return [number for number in numbers if number != 0][0]


def in_lowest_form(weights):
    divisor = common_divisor(weights)
    if first_not_nought(weights) < 0:
        divisor = -divisor
    return [weight // divisor for weight in weights]


def weight_of_one(places, place):
    return [1 if each == place else 0 for each in range(places)]


# By these two together the move changes nothing: the one's change makes up for the other's.
def made_up(weights, change, others, change_of_others):
    return in_lowest_form([
        weight * change_of_others - other * change for weight, other in zip(weights, others)
    ])


# One of the weights that the move changes is given up to make up for the change of the rest.
# So those kept stay independent, and only one is lost for a move that asks something new.
def kept_by(move, told):
    changes = [change_by(weights, move) for weights in told]
    changed = [spot for spot, change in enumerate(changes) if change != 0]
    if len(changed) == 0:
        return told
    lost = changed[0]
    return [
        made_up(weights, changes[spot], told[lost], changes[lost])
        for spot, weights in enumerate(told) if spot != lost
    ]


def sums(moves, start):
    check_net(moves, start)
    places = len(start)
    told = [weight_of_one(places, place) for place in range(places)]
    for move in moves:
        told = kept_by(move, told)
    return told
