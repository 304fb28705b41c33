"""Whole coins: how many of a loss each house bears."""

from roundcede.exact import less, minus, times


def greatest_rest(rests, places):
    # The places rise, and only a rest that is truly greater goes ahead: so of equal ones the lower place does.
    best = places[0]
    for place in places:
        if less(rests[best], rests[place]):
            best = place
    return best


def coins(amount, parts):
    due = [times((amount, 1), part) for part in parts]
    told = [top // bottom for top, bottom in due]
    rests = [minus(one, (whole, 1)) for one, whole in zip(due, told)]
    waiting = list(range(len(parts)))
    for turn in range(amount - sum(told)):
        place = greatest_rest(rests, waiting)
        waiting.remove(place)
        told[place] += 1
    return told
