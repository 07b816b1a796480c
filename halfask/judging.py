"""Orders of works: the one that a story's stamps give, and whether an order explains works.

A work is a tuple (hand, word, value, begun, ended), an order a list of places of works.
"""


def order_of(works, stamps):
    read_stamps = stamps_of_reads(works, stamps)
    places = [place for place in range(len(works)) if stands(works[place], stamps[place], read_stamps)]
    return sorted(places, key=lambda place: (stamps[place], is_read(works[place]), place))


def stamps_of_reads(works, stamps):
    found = {}
    for work, stamp in zip(works, stamps):
        if is_read(work) and has_ended(work):
            found[stamp] = True
    return found


# A write without an end has come about for all who look just where a read has told it.
def stands(work, stamp, read_stamps):
    return has_ended(work) or (not is_read(work) and stamp in read_stamps)


def explains(works, order):
    return (
        are_places(works, order)
        and stand_rightly(works, order)
        and keeps_time(works, order)
        and reads_are_right(works, order)
    )


def are_places(works, order):
    seen = {}
    for place in order:
        if place < 0 or place >= len(works) or place in seen:
            return False
        seen[place] = True
    return True


def stand_rightly(works, order):
    for place, work in enumerate(works):
        if has_ended(work) and place not in order:
            return False
        if is_read(work) and not has_ended(work) and place in order:
            return False
    return True


def keeps_time(works, order):
    for position, place in enumerate(order):
        for later in order[position + 1:]:
            if ended_before(works[later], works[place]):
                return False
    return True


def reads_are_right(works, order):
    value = 0
    for place in order:
        work = works[place]
        if not is_read(work):
            value = work[2]
        elif work[2] != value:
            return False
    return True


def ended_before(work, other):
    return has_ended(work) and work[4] < other[3]


def has_ended(work):
    return work[4] is not None


def is_read(work):
    return work[1] == "read"
