"""Who bears a loss in the end: what ever comes to each house, and what it keeps of this."""

from roundcede.exact import greatest_divisor, lowest, times
from roundcede.rings import kept


def loss_rows(count, ways, start):
    # A house's row, in thousandths: what comes to it, less what comes to it by its ways, is the loss itself,
    # which stands last in the row.
    rows = [[0] * (count + 1) for place in range(count)]
    for place in range(count):
        rows[place][place] = 1000
    for giver, taker, part in ways:
        rows[taker][giver] -= part
    rows[start][count] = 1000
    return rows


def cut_down(row):
    # Without this the numbers would have twice as many figures after each house that is struck out.
    divisor = 0
    for number in row:
        divisor = greatest_divisor(abs(number), divisor)
    return [number // divisor for number in row]


def strike_out(rows, place):
    own = rows[place]
    told = []
    for other, row in enumerate(rows):
        if other == place or row[place] == 0:
            told.append(row)
        else:
            told.append(cut_down([own[place] * one - row[place] * two for one, two in zip(row, own)]))
    return told


def arrivals(count, ways, start):
    rows = loss_rows(count, ways, start)
    # Where nobody is shut in, a house's own number in its row stays above nought, whoever is struck out before it.
    for place in range(count):
        rows = strike_out(rows, place)
    return [lowest(rows[place][count], rows[place][place]) for place in range(count)]


def shares(count, ways, start):
    rests = kept(count, ways)
    return [times(lowest(rest, 1000), one) for rest, one in zip(rests, arrivals(count, ways, start))]
