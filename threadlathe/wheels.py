"""Shops of wheels, the trains that they make, and the pitches that these cut."""

from threadlathe.exact import is_less, least_terms


def plain_ratio(train):
    # Not in least terms: a shop makes thousands of trains, and comparing them needs no least terms.
    if len(train) == 2:
        return (train[0], train[1])
    return (train[0] * train[2], train[1] * train[3])


def ratio_of(train):
    ratio = plain_ratio(train)
    return least_terms(ratio[0], ratio[1])


def pairs_of(teeth):
    pairs = []
    for driver in teeth:
        for driven in teeth:
            if driver != driven:
                pairs.append((driver, driven))
    return pairs


def fours_of(pairs):
    fours = []
    for front in pairs:
        for back in pairs:
            if back[0] not in front and back[1] not in front:
                fours.append(front + back)
    return fours


def all_trains(wheels):
    # Pairs of sorted teeth are in rising order, and so are the fours that are put together from them.
    pairs = pairs_of(sorted(wheels))
    return pairs + fours_of(pairs)


def gives(train, pitch):
    ratio = plain_ratio(train)
    return ratio[0] * pitch[1] == pitch[0] * ratio[1]


def trains_for(wheels, pitch):
    return [train for train in all_trains(wheels) if gives(train, pitch)]


def scaled_gap(ratio, pitch):
    # The pitch's bottom is left out of the gap's: it is the same for all ratios that are compared.
    return (abs(ratio[0] * pitch[1] - pitch[0] * ratio[1]), ratio[1])


def suits_better(ratio, other, pitch):
    gap = scaled_gap(ratio, pitch)
    other_gap = scaled_gap(other, pitch)
    if is_less(gap, other_gap):
        return True
    if is_less(other_gap, gap):
        return False
    return is_less(ratio, other)


def choose_train(wheels, pitch):
    # A train yields only to one of another pitch that suits better, so of the trains
    # of the pitch told the first one in the order of trains_for is kept.
    trains = all_trains(wheels)
    chosen = trains[0]
    for train in trains:
        if suits_better(plain_ratio(train), plain_ratio(chosen), pitch):
            chosen = train
    return (ratio_of(chosen), chosen)
