"""Wakings and searches: a lot asks by letters for its least way out, and joins over it when the search ends."""

from lotjoin.errors import NoHouse, NoStep
from lotjoin.roads import ends_of, least_of, lot_at, ways_out
from lotjoin.webs import is_tuple_of, is_whole, is_within, need_web

# Ways put in, ways known to lie within a lot, houses whose lot knows that it is whole.
FIRST_STAND = ((), (), ())


def rising(numbers):
    return tuple(sorted(set(numbers)))


def letters_of_asking(web, stand, lot):
    settled = stand[0] + stand[1]
    unsettled = [number for number in range(len(web[1])) if number not in settled]
    # A way whose ends both lie in the lot is asked over from each of them.
    asking = [house for house in ends_of(web, unsettled) if house in lot]
    return 2 * (len(lot) - 1) + 2 * len(asking)


def ways_within(web, lot):
    return [number for number, way in enumerate(web[1]) if way[0] in lot and way[1] in lot]


def waked(web, stand, house):
    # Only of a lot that doesn't know: the way found or None, the letters, the stand behind.
    lot = lot_at(web, stand[0], house)
    found = least_of(web, ways_out(web, lot))
    within = [number for number in ways_within(web, lot) if number not in stand[0]]
    behind = (stand[0], rising(list(stand[1]) + within), stand[2])
    return (found, letters_of_asking(web, stand, lot), behind)


def joined_over(web, stand, found):
    # By the marks just the houses of the lot with fewer take another one.
    sizes = [len(lot_at(web, stand[0], house)) for house in ends_of(web, [found])]
    return (found, 1 + min(sizes), (rising(stand[0] + (found,)), stand[1], stand[2]))


def told_whole(web, stand, house):
    lot = lot_at(web, stand[0], house)
    return (None, len(lot) - 1, (stand[0], stand[1], rising(list(stand[2]) + lot)))


def ended(web, stand, house, found):
    # The way put in or None, the letters, the stand behind.
    if found is None and house not in stand[2]:
        return told_whole(web, stand, house)
    if found is not None and found not in stand[0]:
        return joined_over(web, stand, found)
    return (None, 0, stand)


class Night:
    def __init__(self, web):
        need_web(web)
        self.town = web
        self.latest = FIRST_STAND
        self.begun = 0
        self.going = {}

    def wake(self, house):
        if not is_within(house, 0, self.town[0] - 1):
            raise NoHouse(0)
        number = self.begun
        self.begun = number + 1
        if house in self.latest[2]:
            return (None, 0)
        waking = waked(self.town, self.latest, house)
        self.going[number] = (house, waking[0])
        self.latest = waking[2]
        return (None, waking[1])

    def end(self, number):
        # A truth would be found as 0 or 1, and a list could not be looked up.
        if not is_whole(number) or number not in self.going:
            raise NoStep(0)
        search = self.going.pop(number)
        ending = ended(self.town, self.latest, search[0], search[1])
        self.latest = ending[2]
        return (ending[0], ending[1])

    def stand(self):
        return (list(self.latest[0]), list(self.latest[1]), list(self.latest[2]))

    def under(self):
        return sorted(self.going)


def told_of(night, event):
    if is_tuple_of(event, 2) and event[0] == "wake":
        return night.wake(event[1])
    if is_tuple_of(event, 2) and event[0] == "end":
        return night.end(event[1])
    raise NoStep(0)


def all_told(night, events):
    told = []
    for place, event in enumerate(events):
        try:
            told.append(told_of(night, event))
        except (NoHouse, NoStep):
            raise NoStep(place) from None
    return told


def letters_of(web, events):
    return all_told(Night(web), events)


def stand_behind(web, events):
    night = Night(web)
    all_told(night, events)
    return night.stand()
