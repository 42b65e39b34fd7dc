"""Sets of places, kept in the bits of integers, and covers of all places by sets that are apart."""


def bits_of(places):
    """Return the integer in which the bits of these places are set."""
    bits = 0
    for place in places:
        bits = bits | 1 << place
    return bits


def places_of(bits):
    """Return the ascending tuple of the places whose bits are set."""
    return tuple([place for place in range(bits.bit_length()) if bits >> place & 1 == 1])


def many_in(bits):
    """Return how many places there are in a set."""
    digits = f"{bits:b}"
    return digits.count("1")


def least_in(bits):
    """Return the least place in a set that is not empty."""
    return (bits & -bits).bit_length() - 1


def every_place(web):
    """Return the set of all places."""
    return (1 << web.size) - 1


def tied_sets(web):
    """Return for each place the set of the places to which it is tied."""
    return [bits_of(web[place]) for place in range(web.size)]


def apart_sets(tied, free, size):
    """Return all sets of so many of the free places that are apart."""
    found = [(0, free)]
    for lacking in range(size, 0, -1):
        longer = []
        for chosen, rest in found:
            # Only greater places are added, so that each set comes once, and only where enough of them are left.
            for _ in range(many_in(rest) - lacking + 1):
                first = rest & -rest
                rest = rest ^ first
                longer.append((chosen | first, rest & ~tied[first.bit_length() - 1]))
        found = longer
    return [chosen for chosen, _ in found]


def first_sets(tied, free, size):
    """Return all sets of so many of the free places that are apart and have the least free one."""
    place = least_in(free)
    rest = free & ~tied[place] & ~(1 << place)
    return [1 << place | chosen for chosen in apart_sets(tied, rest, size - 1)]


def widest_sets(tied, free, most, barred=0):
    """Return the sets of free places that are apart and have `most` places, or as many as no free one can join.

    A set that a barred place could join is left out, too, unless it has `most` places.
    """
    if most == 0 or free == 0 and barred == 0:
        return [0]
    found = []
    left = free
    for place in places_of(free):
        near = tied[place] | 1 << place
        found.extend([1 << place | chosen for chosen in widest_sets(tied, left & ~near, most - 1, barred & ~near)])
        left = left & ~(1 << place)
        barred = barred | 1 << place
    return found


def behind_pair(tied, free, used, share):
    """Return the sets that may come behind a pair of a table, which has used so many sets and left these places free.

    The share is the pair of the least size of a hue and of the number of the hues that come once more.
    """
    least, greater = share
    # So many places may be covered by all sets together.
    room = least * (used + 1) + greater - (len(tied) - many_in(free))
    return [chosen for size in (least, least + 1) if size <= room for chosen in first_sets(tied, free, size)]


def level_cover(web, hues):
    """Return the dict of covers by sets of level sizes: from pairs (covered places, number of sets) to the last set.

    It has each pair to which such sets lead, unless one of them covers all places: then it ends with this one.
    There are at least as many places as hues.
    """
    tied = tied_sets(web)
    every = every_place(web)
    share = divmod(web.size, hues)
    came = {(0, 0): 0}
    ahead = [(0, 0)]
    while ahead:
        covered, used = ahead.pop()
        if used < hues:
            for chosen in behind_pair(tied, every & ~covered, used, share):
                pair = (covered | chosen, used + 1)
                if pair not in came:
                    came[pair] = chosen
                    ahead.append(pair)
                if pair[0] == every:
                    return came
    return came


def sets_in_cover(came, web, hues):
    """Return the sets of the cover of all places that such a dict tells, or None if it tells none."""
    covered = every_place(web)
    if (covered, hues) not in came:
        return None
    found = []
    for used in range(hues, 0, -1):
        chosen = came[(covered, used)]
        found.append(chosen)
        covered = covered & ~chosen
    return found


def row_of_sets(sets, size):
    """Return the row in which each place has the number of its set."""
    hue_of = {place: hue for hue, chosen in enumerate(sets) for place in places_of(chosen)}
    return tuple([hue_of[place] for place in range(size)])
