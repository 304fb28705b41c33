"""Ways on one day: what each house keeps, whom a house leads to, and who is shut in."""


def kept(count, ways):
    rests = [1000] * count
    for giver, taker, part in ways:
        rests[giver] -= part
    return rests


def spread(marks, steps):
    # A turn that marks nobody new is the end of it, so as many turns as there are houses are enough.
    reached = list(marks)
    for turn in range(len(marks)):
        for before, behind in steps:
            if reached[before]:
                reached[behind] = True
    return reached


def leads(count, ways, start):
    marks = [place == start for place in range(count)]
    reached = spread(marks, [(giver, taker) for giver, taker, part in ways])
    return [place for place in range(count) if reached[place]]


def shut_in(count, ways):
    # Walked from taker to giver, the ways find all houses that lead to one that keeps something.
    marks = [rest > 0 for rest in kept(count, ways)]
    free = spread(marks, [(taker, giver) for giver, taker, part in ways])
    return [place for place in range(count) if not free[place]]
