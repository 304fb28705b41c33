"""How a loss goes from house to house, round by round."""

from roundcede.rings import kept


def next_round(rests, ways, before):
    # The parts of a coin that are counted are a thousand times smaller now, so thousandths of them are whole.
    came = before[0]
    held = [1000 * had + rest * new for had, rest, new in zip(before[1], rests, came)]
    sent = [0] * len(came)
    for giver, taker, part in ways:
        sent[taker] += part * came[giver]
    return (sent, held)


def walk(count, ways, start, amount, many):
    rests = kept(count, ways)
    way = [0] * count
    way[start] = amount
    told = [(way, [0] * count)]
    for turn in range(many):
        told.append(next_round(rests, ways, told[-1]))
    return told
