"""Where the wares end by a row of counts, and what a round is (point 6)."""


def end_of(deeds, counts, ware):
    return sum([count * row[ware] for count, row in zip(counts, deeds)])


def ends(width, deeds, counts):
    return [end_of(deeds, counts, ware) for ware in range(width)]


def uneven(width, deeds, counts):
    return [ware for ware, end in enumerate(ends(width, deeds, counts)) if end != 0]


def places(counts):
    return [place for place, count in enumerate(counts) if count > 0]


def is_round(width, deeds, counts):
    return len(places(counts)) > 0 and len(uneven(width, deeds, counts)) == 0
