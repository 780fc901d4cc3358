"""Whether a party can keep all that they'll ever owe from a place on, whatever the others do."""

MOST_PLACES = 300

# Stands for all that follows once the party has broken something: where it leads then doesn't matter.
BROKEN = None


def places_from(course, start):
    """The places that can be come to from start, itself among them; None if they are too many."""
    found = {start: True}
    order = [start]
    seen = 0
    while seen < len(order):
        place = order[seen]
        for outcome in course.outcomes(place):
            if outcome.place not in found:
                found[outcome.place] = True
                order.append(outcome.place)
        if len(order) > MOST_PLACES:
            return None
        seen = seen + 1
    return order


def lost_places(course, places, p):
    """A dict of the places, all or some of places, from which the others can make p break something."""
    entries = entries_of(course, places, p)
    chances = chances_of(course, places, p)
    lost = {BROKEN: True}
    spreading = [BROKEN]
    while len(spreading) > 0:
        end = spreading.pop()
        for place in entries[end]:
            chances[place] = chances[place] - 1
            if chances[place] == 0:
                lost[place] = True
                spreading.append(place)
    return lost


def entries_of(course, places, p):
    """By each place, and by BROKEN, the places from which one move leads there, once for each such move."""
    entries = {BROKEN: []}
    for place in places:
        entries[place] = []
    for place in places:
        for outcome in course.outcomes(place):
            entries[end_for(outcome, p)].append(place)
    return entries


def chances_of(course, places, p):
    """By each place, how many of its moves must be lost ones before the place is lost."""
    chances = {}
    for place in places:
        # At p's own turn all of them; at another's turn one is enough, for the others may do whatever they like.
        chances[place] = len(course.outcomes(place)) if place[0] == p else 1
    return chances


def end_for(outcome, p):
    return BROKEN if p in outcome.broke else outcome.place


def first_keeping_move(outcomes, lost, p):
    """The deed of the first outcome by which p breaks nothing now and isn't lost; there must be one."""
    return [outcome.deed for outcome in outcomes if end_for(outcome, p) not in lost][0]
