"""Follows answers move by move, without the package's help, and holds them against DOC.md."""

import math
from fractions import Fraction

BIG = 10 ** 40 - 1


def unit(places, *filled):
    beads = [0] * places
    for place, number in filled:
        beads[place] += number
    return beads


def move(places, takes, gives):
    return (unit(places, *takes), unit(places, *gives))


def shift(places, source, target, number=1):
    return move(places, [(source, number)], [(target, number)])


def ring_of_places(places, number=1):
    return [shift(places, place, (place + 1) % places, number) for place in range(places)]


def some_list(source, places, most):
    return [source.randint(1, most) if source.random() < 0.4 else 0 for place in range(places)]


def some_net(source, most):
    places = source.randint(1, 5)
    count = source.randint(0, 6)
    moves = [(some_list(source, places, most), some_list(source, places, most)) for number in range(count)]
    return moves, [source.randint(0, most + 1) for place in range(places)]


def is_number(value):
    return type(value) is int


def is_nowhere_more(some, others):
    return all(some[place] <= others[place] for place in range(len(others)))


def after(moves, beads, number):
    """The beads behind one move, or None where it can't be done (point 3)."""
    takes, gives = moves[number]
    for place in range(len(beads)):
        if beads[place] < takes[place]:
            return None
    return [beads[place] - takes[place] + gives[place] for place in range(len(beads))]


def walk(case, moves, beads, row):
    case.assertIs(type(row), list)
    for number in row:
        case.assertTrue(is_number(number))
        case.assertIn(number, range(len(moves)))
        beads = after(moves, beads, number)
        case.assertIsNotNone(beads, "a move of the row can't be done")
    return beads


def check_growth(case, moves, start, answer):
    """Point 5: a row, and a ring that leads to other beads, at no place fewer."""
    case.assertEqual(len(answer), 3)
    row, ring = answer[1:]
    lower = walk(case, moves, list(start), row)
    case.assertGreaterEqual(len(ring), 1)
    upper = walk(case, moves, lower, ring)
    case.assertNotEqual(upper, lower)
    case.assertTrue(is_nowhere_more(lower, upper), "the ring leads to fewer beads at some place")


def check_back(case, moves, entries, place):
    """Point 6: an earlier entry, and a move that leads from it to this one."""
    beads, back = entries[place]
    case.assertIs(type(back), tuple)
    spot, number = back
    case.assertTrue(is_number(spot) and is_number(number))
    case.assertIn(spot, range(place))
    case.assertIn(number, range(len(moves)))
    case.assertEqual(after(moves, entries[spot][0], number), beads)


def check_entries(case, moves, start, entries):
    """Point 6: all different beads that can be come to, each once."""
    case.assertIs(type(entries), list)
    for entry in entries:
        case.assertIs(type(entry), tuple)
        case.assertIs(type(entry[0]), list)
        case.assertTrue(all(is_number(number) for number in entry[0]))
    case.assertGreaterEqual(len(entries), 1)
    case.assertEqual(entries[0], (list(start), None))
    for place in range(1, len(entries)):
        check_back(case, moves, entries, place)
    told = {tuple(beads) for beads, back in entries}
    case.assertEqual(len(told), len(entries), "some beads are told twice")
    for beads in told:
        for number in range(len(moves)):
            further = after(moves, beads, number)
            if further is not None:
                case.assertIn(tuple(further), told, "some beads are not told")


def check_told(case, moves, start, answer):
    """Point 7. Entries that nothing leads out of show that beads don't grow, a ring that they do."""
    case.assertIs(type(answer), tuple)
    if answer[0] == "grows":
        check_growth(case, moves, start, answer)
    else:
        case.assertEqual(answer[0], "all")
        case.assertEqual(len(answer), 2)
        check_entries(case, moves, start, answer[1])
    return answer[0]


def come_to(moves, start):
    """All different beads that can be come to, gone through without a tree. For nets that don't grow."""
    found = {tuple(start): True}
    left = [list(start)]
    while left:
        beads = left.pop()
        for number in range(len(moves)):
            further = after(moves, beads, number)
            if further is not None and tuple(further) not in found:
                found[tuple(further)] = True
                left.append(further)
    return list(found)


def is_dead_end(moves, beads):
    return all(after(moves, beads, number) is None for number in range(len(moves)))


def check_dead_end(case, moves, start, answer):
    """Point 10."""
    case.assertIs(type(answer), tuple)
    if answer[0] == "grows":
        check_growth(case, moves, start, answer)
        return "grows"
    case.assertEqual(len(answer), 2)
    if answer[0] == "stuck":
        case.assertTrue(is_dead_end(moves, walk(case, moves, list(start), answer[1])))
        return "stuck"
    case.assertEqual(answer[0], "never")
    check_entries(case, moves, start, answer[1])
    for beads, back in answer[1]:
        case.assertFalse(is_dead_end(moves, beads))
    return "never"


def check_bounds(case, moves, start, answer):
    """Point 11. The most beads are reckoned once more from all that can be come to."""
    case.assertIs(type(answer), tuple)
    if answer[0] == "grows":
        check_growth(case, moves, start, answer)
        return "grows"
    case.assertEqual(answer[0], "bounds")
    case.assertEqual(len(answer), 2)
    case.assertIs(type(answer[1]), list)
    case.assertEqual(len(answer[1]), len(start))
    found = come_to(moves, start)
    for place, pair in enumerate(answer[1]):
        case.assertIs(type(pair), tuple)
        number, row = pair
        case.assertTrue(is_number(number))
        case.assertEqual(number, max(beads[place] for beads in found))
        case.assertEqual(walk(case, moves, list(start), row)[place], number)
    return "bounds"


def check_road(case, moves, start, goal, answer):
    """Point 12."""
    case.assertIs(type(answer), tuple)
    if answer[0] == "grows":
        check_growth(case, moves, start, answer)
        return "grows"
    case.assertEqual(len(answer), 2)
    if answer[0] == "road":
        case.assertEqual(walk(case, moves, list(start), answer[1]), list(goal))
    elif answer[0] == "apart":
        check_weights(case, moves, start, answer[1])
        case.assertNotEqual(worth(answer[1], start), worth(answer[1], goal))
    else:
        case.assertEqual(answer[0], "none")
        check_entries(case, moves, start, answer[1])
        case.assertNotIn(list(goal), [beads for beads, back in answer[1]])
    return answer[0]


def worth(weights, beads):
    return sum(weights[place] * beads[place] for place in range(len(weights)))


def rank(rows):
    """How many of the rows are independent, reckoned with fractions."""
    left = [[Fraction(number) for number in row] for row in rows]
    count = 0
    for column in range(len(left[0]) if left else 0):
        heads = [row for row in left if row[column] != 0]
        if heads:
            count += 1
            left.remove(heads[0])
            left = [[number - head * row[column] / heads[0][column] for number, head in zip(row, heads[0])]
                    for row in left]
    return count


def check_weights(case, moves, start, weights):
    """Point 8: a number for each place, not all nought, and no move changes the sum."""
    case.assertIs(type(weights), list)
    case.assertEqual(len(weights), len(start))
    case.assertTrue(all(is_number(weight) for weight in weights))
    case.assertTrue(any(weights), "all weights are nought")
    for takes, gives in moves:
        case.assertEqual(worth(weights, takes), worth(weights, gives))


def check_sums(case, moves, start, told):
    """Point 9: independent, as many as must be, without a common divisor, the first above nought."""
    case.assertIs(type(told), list)
    for weights in told:
        check_weights(case, moves, start, weights)
        case.assertEqual(math.gcd(*weights), 1)
        case.assertGreater([weight for weight in weights if weight != 0][0], 0)
    changes = [[given - taken for taken, given in zip(takes, gives)] for takes, gives in moves]
    case.assertEqual(len(told), len(start) - rank(changes))
    case.assertEqual(rank(told), len(told), "some weights are put together of the others")
