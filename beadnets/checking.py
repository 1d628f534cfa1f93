"""Whether entries are all that can be come to."""

from beadnets.nets import can_do, check_net, done


def begins_with(entries, start):
    return len(entries) > 0 and entries[0][0] == start and entries[0][1] is None


def is_led_to(moves, entries, spot):
    back = entries[spot][1]
    if back is None:
        return False
    earlier = back[0]
    number = back[1]
    # A spot or a number below nought would index from the end.
    if earlier < 0 or earlier >= spot or number < 0 or number >= len(moves):
        return False
    beads = entries[earlier][0]
    return can_do(moves[number], beads) and done(moves[number], beads) == entries[spot][0]


def nothing_leads_out(moves, known):
    for beads in known:
        for move in moves:
            if can_do(move, beads) and tuple(done(move, beads)) not in known:
                return False
    return True


def is_all(moves, start, entries):
    check_net(moves, start)
    if not begins_with(entries, start):
        return False
    if not all([is_led_to(moves, entries, spot) for spot in range(1, len(entries))]):
        return False
    known = {}
    for beads, back in entries:
        known[tuple(beads)] = True
    return len(known) == len(entries) and nothing_leads_out(moves, known)
