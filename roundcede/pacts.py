"""Pacts, told as tuples (giver, taker, part, first, last): their ways, and what a new one may be refused for."""

from roundcede.checks import check_day, check_range, place_of
from roundcede.errors import DaysTurned, ToItself, TooMuch
from roundcede.rings import kept, shut_in
from roundcede.spans import stretches

WHOLE = 1000


def ways_of(names, pacts):
    return [(names.index(giver), names.index(taker), part) for giver, taker, part, first, last in pacts]


def ways_on(names, pacts, day):
    return ways_of(names, [pact for pact in pacts if pact[3] <= day <= pact[4]])


def looks(names, pacts):
    # Nothing differs between two days of one stretch, so its first day stands for all of them.
    ways = ways_of(names, pacts)
    spans = [(first, last) for giver, taker, part, first, last in pacts]
    return [(first, [ways[place] for place in places]) for first, last, places in stretches(spans)]


def check_terms(names, giver, taker, part, first, last):
    place_of(names, giver)
    place_of(names, taker)
    if giver == taker:
        raise ToItself(f"{giver} would give to itself")
    if first > last:
        raise DaysTurned("the first day is above the last")
    check_range(part, 1, WHOLE)
    check_day(first)
    check_day(last)


def whom_shut(names, pacts, new):
    days = looks(names, pacts + [new])
    giver = place_of(names, new[0])
    # Too much on a late day goes ahead of whoever is shut in on an early one, so all days are asked for it first.
    for day, ways in days:
        if kept(len(names), ways)[giver] < 0:
            raise TooMuch(f"the giver would pass on more than all on day {day}")
    for day, ways in days:
        found = shut_in(len(names), ways)
        if found:
            return (day, [names[place] for place in found])
    return None
