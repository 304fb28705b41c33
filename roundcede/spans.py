"""Spans of days, and the stretches of days on which the same spans hold."""

LAST_DAY = 5000


def turning_days(spans):
    # Only where a span begins, or on the day behind its last one, can other spans hold than on the day before.
    days = [0]
    for first, last in spans:
        days.append(first)
        days.append(last + 1)
    return sorted(set([day for day in days if 0 <= day <= LAST_DAY]))


def holding(spans, day):
    return [place for place, span in enumerate(spans) if span[0] <= day <= span[1]]


def stretches(spans):
    firsts = turning_days(spans)
    behind = firsts[1:] + [LAST_DAY + 1]
    told = []
    for first, after in zip(firsts, behind):
        told.append((first, after - 1, holding(spans, first)))
    return told
