"""Level colourings found, with bars where there are none, and those that change a row at the fewest places."""

from levelhues.base.checks import is_hued
from levelhues.base.rows import is_row
from levelhues.base.webs import check_web
from levelhues.errors import InvalidOperation, InvalidRow, Refused, TooMany
from levelhues.hue.chains import links_between, onward_to, steps_along
from levelhues.hue.judged import check_hues, is_level_colouring
from levelhues.level.bars import bar, is_bar
from levelhues.level.covers import (
    apart_sets,
    bits_of,
    every_place,
    level_cover,
    many_in,
    row_of_sets,
    sets_in_cover,
    tied_sets,
)

MAX_SEARCHED = 12


def level_colouring(web, hues):
    """Return a level colouring, or None if there is none."""
    check_hues(web, hues)
    _check_searched(web, hues)
    return _level_row(web, hues)


def has_level(web, hues):
    """Tell whether there is a level colouring."""
    return level_colouring(web, hues) is not None


def level_paper(web, hues):
    """Return a pair of "colouring" and a level colouring, or of "bar" and a bar."""
    row = level_colouring(web, hues)
    return ("bar", bar(web, hues)) if row is None else ("colouring", row)


def is_level_paper(web, hues, value):
    """Tell whether the value is such a pair."""
    check_hues(web, hues)
    _check_searched(web, hues)
    if not isinstance(value, tuple) or len(value) != 2:
        return False
    if value[0] == "colouring":
        return is_level_colouring(web, hues, value[1])
    return value[0] == "bar" and is_bar(web, hues, value[1])


def level_numbers(web):
    """Return the numbers of hues, up to that of the places, with which there is a level colouring."""
    check_web(web)
    _check_searched(web, 1)
    return tuple([hues for hues in range(1, web.size + 1) if _level_row(web, hues) is not None])


def fewest_level(web):
    """Return the least number of hues with which there is a level colouring."""
    return level_numbers(web)[0]


def level_from(web):
    """Return the least number of hues from which on there is always a level colouring."""
    numbers = level_numbers(web)
    least = web.size
    while least - 1 in numbers:
        least = least - 1
    return least


def level_again(web, hues, row):
    """Return a level colouring with as few places as any that have another hue than in the row."""
    check_hues(web, hues)
    if not is_hued(row, web.size, hues):
        raise InvalidRow("no tuple with a hue for each place")
    if web.size > MAX_SEARCHED:
        raise TooMany(MAX_SEARCHED)
    found = nearest_level(web, hues, row)
    if found is None:
        raise Refused("level")
    return found


def nearest_level(web, hues, row):
    """Return a level colouring that is like a row at as many places as any, or None, without a look at the arguments.

    The row may tell a number that is no hue for some places: no colouring is like it there.
    """
    return _unlike_row(row, hues) if hues >= web.size else _nearest_row(web, hues, row)


def recoloured(row, other):
    """Return the ascending tuple of the places at which two rows differ."""
    for told in (row, other):
        if not is_row(told):
            raise InvalidRow("no row")
    if len(row) != len(other):
        raise InvalidOperation("the rows have not equally many places")
    return tuple([place for place in range(len(row)) if row[place] != other[place]])


def _check_searched(web, hues):
    if web.size > MAX_SEARCHED and hues <= web.most:
        raise TooMany(MAX_SEARCHED)


def _level_row(web, hues):
    """Return a level colouring, or None; there is no bound on the places if there are hues enough."""
    if hues > web.most:
        return _row_without_search(web, hues)
    sets = sets_in_cover(level_cover(web, hues), web, hues)
    return None if sets is None else row_of_sets(sets, web.size)


def _row_without_search(web, hues):
    """Return a level colouring with more hues than the greatest degree, as [6.2] tells."""
    # Each hue has one of the added places at most, so the row is level without them, too.
    every = web.size + -web.size % hues
    added = list(range(web.size, every))
    none = [[] for _ in range(web.size)]
    beside = [*none, *[[near for near in added if near != at] for at in added]]
    row = [place % hues for place in range(every)]
    for place in range(web.size):
        for other in web[place]:
            if other < place:
                beside[place].append(other)
                beside[other].append(place)
        _settle(beside, row, hues, place)
    return tuple(row[:web.size])


def _settle(beside, row, hues, place):
    """Make the row a colouring again, in which all hues come equally often, behind ties of a place that came back."""
    near = [row[other] for other in beside[place]]
    if row[place] in near:
        small = row[place]
        great = min([hue for hue in range(hues) if hue not in near])
        row[place] = great
        _even_out(beside, row, list(range(hues)), small, great)


def _even_out(beside, row, hues, small, great):
    """Change the row so that these hues come equally often.

    The great one has a place too many, and the small one a place too few; places of other hues stay as they are.
    """
    while True:
        found = links_between(beside, row, hues)
        onward = onward_to(found, hues, small)
        if great in onward:
            _shift(row, steps_along(onward, great))
            return
        behind = [hue for hue in hues if hue not in onward]
        solos = _solos(beside, row, behind, _last_hues(found, onward, small))
        step = _solo_step(row, found, onward, solos)
        if step is not None:
            solo, hue = step
            hue_left = row[solo]
            others = [kept for kept in onward if kept != hue_left]
            _shift(row, [step, *steps_along(onward_to(found, others, small), hue)])
            _bring_back(beside, row, behind, solos[solo][0], hue_left, great)
            return
        great = _trade(beside, row, behind, solos, great)


def _shift(row, steps):
    for place, hue in steps:
        row[place] = hue


def _last_hues(found, onward, small):
    """Return the hues that no longer reach the small one without a certain other one: as few as for any."""
    lost = [_lost_without(found, onward, small, hue) for hue in onward]
    return min([hues for hues in lost if hues], key=len)


def _lost_without(found, onward, small, without):
    others = [hue for hue in onward if hue != without]
    kept = {} if without == small else onward_to(found, others, small)
    return [hue for hue in others if hue not in kept]


def _solos(beside, row, behind, last):
    """Return for each place of a last hue that is solo for places behind the list of these."""
    solos = {}
    for place, worn in enumerate(row):
        if worn in behind:
            for hue in last:
                near = [other for other in beside[place] if row[other] == hue]
                if len(near) == 1:
                    solos.setdefault(near[0], []).append(place)
    return solos


def _solo_step(row, found, onward, solos):
    """Return a pair of a solo place and another hue that reaches the small one and to which it is movable, or None."""
    for solo in solos:
        for hue in onward:
            if solo in found.get((row[solo], hue), []):
                return (solo, hue)
    return None


def _bring_back(beside, row, behind, place, hue, great):
    """Give a place behind a hue that reaches the small one, and make the other places behind level by themselves."""
    small = row[place]
    row[place] = hue
    if small != great:
        _even_out(beside, row, behind, small, great)


def _trade(beside, row, behind, solos, great):
    """Give a place behind the hue of a solo one, and this one a hue from behind, which is returned: the great one."""
    solo, place = _untied_solo(beside, solos)
    _bring_back(beside, row, behind, place, row[solo], great)
    near = [row[other] for other in beside[solo]]
    row[solo] = min([hue for hue in behind if hue not in near])
    return row[solo]


def _untied_solo(beside, solos):
    """Return a place that is solo for two places that are not tied, and one of these."""
    pairs = [
        (solo, place)
        for solo, places in solos.items()
        for place in places
        if not all([other == place or other in beside[place] for other in places])
    ]
    return pairs[0]


def _unlike_row(row, hues):
    """Return the row in which no hue comes twice that is like a row at the most places."""
    spare = [hue for hue in range(hues) if hue not in row]
    found = []
    for hue in row:
        found.append(spare.pop() if hue in found or hue >= hues else hue)
    return tuple(found)


def _nearest_row(web, hues, row):
    """Return the level colouring that is like a row at the most places, or None; there are more places than hues."""
    tied = tied_sets(web)
    least = web.size // hues
    sets = [(size, chosen) for size in (least, least + 1) for chosen in apart_sets(tied, every_place(web), size)]
    layers = [{0: (0, 0)}]
    for hue in range(hues):
        worn = bits_of([place for place in range(web.size) if row[place] == hue])
        told = [(size, chosen, many_in(chosen & worn)) for size, chosen in sets]
        layers.append(_next_layer(layers[-1], told, _bounds(web.size, hues, hue + 1)))
    return _row_of_layers(layers, web.size)


def _bounds(size, hues, used):
    """Return how many places the first hues have at least, and at most, in a level row."""
    least, greater = divmod(size, hues)
    return (least * used + max(0, greater - (hues - used)), least * used + min(greater, used))


def _next_layer(layer, told, bounds):
    """Return the dict from the places that one hue more can cover to the most that keep their hue, and its last set."""
    found = {}
    for covered, (kept, _) in layer.items():
        many = many_in(covered)
        for size, chosen, gained in told:
            if covered & chosen == 0 and bounds[0] <= many + size <= bounds[1]:
                best = found.get(covered | chosen)
                if best is None or best[0] < kept + gained:
                    found[covered | chosen] = (kept + gained, chosen)
    return found


def _row_of_layers(layers, size):
    covered = (1 << size) - 1
    if covered not in layers[-1]:
        return None
    sets = []
    for layer in layers[:0:-1]:
        chosen = layer[covered][1]
        sets.append(chosen)
        covered = covered & ~chosen
    return row_of_sets(sets[::-1], size)
