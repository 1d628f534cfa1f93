"""Follows answers move by move, without the package's help, and holds them against DOC.md."""


def unit(places, *filled):
    beads = [0] * places
    for place, number in filled:
        beads[place] += number
    return beads


def move(places, takes, gives):
    return (unit(places, *takes), unit(places, *gives))


def shift(places, source, target, number=1):
    return move(places, [(source, number)], [(target, number)])


def is_number(value):
    return type(value) is int


def is_nowhere_more(some, others):
    return all(some[place] <= others[place] for place in range(len(others)))


def after(moves, beads, number):
    """The beads behind one move, or None where it can't be done (point 3)."""
    takes, gives = moves[number]
    for place in range(len(beads)):
        if beads[place] < takes[place]:
            return None
    return [beads[place] - takes[place] + gives[place] for place in range(len(beads))]


def walk(case, moves, beads, row):
    case.assertIs(type(row), list)
    for number in row:
        case.assertTrue(is_number(number))
        case.assertIn(number, range(len(moves)))
        beads = after(moves, beads, number)
        case.assertIsNotNone(beads, "a move of the row can't be done")
    return beads


def check_growth(case, moves, start, answer):
    """Point 5: a row, and a ring that leads to other beads, at no place fewer."""
    case.assertEqual(len(answer), 3)
    row, ring = answer[1:]
    lower = walk(case, moves, list(start), row)
    case.assertGreaterEqual(len(ring), 1)
    upper = walk(case, moves, lower, ring)
    case.assertNotEqual(upper, lower)
    case.assertTrue(is_nowhere_more(lower, upper), "the ring leads to fewer beads at some place")


def check_back(case, moves, entries, place):
    """Point 6: an earlier entry, and a move that leads from it to this one."""
    beads, back = entries[place]
    case.assertIs(type(back), tuple)
    spot, number = back
    case.assertTrue(is_number(spot) and is_number(number))
    case.assertIn(spot, range(place))
    case.assertIn(number, range(len(moves)))
    case.assertEqual(after(moves, entries[spot][0], number), beads)


def check_entries(case, moves, start, entries):
    """Point 6: all different beads that can be come to, each once."""
    case.assertIs(type(entries), list)
    for entry in entries:
        case.assertIs(type(entry), tuple)
        case.assertIs(type(entry[0]), list)
        case.assertTrue(all(is_number(number) for number in entry[0]))
    case.assertEqual(entries[0], (list(start), None))
    for place in range(1, len(entries)):
        check_back(case, moves, entries, place)
    told = {tuple(beads) for beads, back in entries}
    case.assertEqual(len(told), len(entries), "some beads are told twice")
    for beads in told:
        for number in range(len(moves)):
            further = after(moves, beads, number)
            if further is not None:
                case.assertIn(tuple(further), told, "some beads are not told")


def check_told(case, moves, start, answer):
    """Point 7. Entries that nothing leads out of show that beads don't grow, a ring that they do."""
    case.assertIs(type(answer), tuple)
    if answer[0] == "grows":
        check_growth(case, moves, start, answer)
    else:
        case.assertEqual(answer[0], "all")
        case.assertEqual(len(answer), 2)
        check_entries(case, moves, start, answer[1])
    return answer[0]
