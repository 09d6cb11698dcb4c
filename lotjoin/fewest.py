"""The fewest letters of rows of wakings whose searches end at once, and floors that show them."""

from lotjoin.errors import TooMany
from lotjoin.forest import forest_of
from lotjoin.roads import is_rising, lot_at, ways_out
from lotjoin.wakings import FIRST_STAND, ended, waked
from lotjoin.webs import is_tuple_of, need_web

MOST_HOUSES_HERE = 5
MOST_WAYS_HERE = 8


def need_few(web):
    need_web(web)
    if web[0] > MOST_HOUSES_HERE or len(web[1]) > MOST_WAYS_HERE:
        raise TooMany("there are more than five houses or eight ways")


def waked_and_ended(web, stand, house):
    # The letters of both, and the stand behind.
    if house in stand[2]:
        return (0, stand)
    waking = waked(web, stand, house)
    ending = ended(web, waking[2], house, waking[0])
    return (waking[1] + ending[1], ending[2])


def reckon_from(web, stand, best):
    # Each waking in a lot that doesn't know joins two lots or makes one know: so this goes no deeper than houses are.
    if stand in best:
        return
    rows = []
    for house in range(web[0]):
        if house not in stand[2]:
            step = waked_and_ended(web, stand, house)
            reckon_from(web, step[1], best)
            rows.append((step[0] + best[step[1]][0], house, step[1]))
    best[stand] = min(rows, default=(0, None, stand))


def best_row(best):
    houses = []
    step = best[FIRST_STAND]
    while step[1] is not None:
        houses.append(step[1])
        step = best[step[2]]
    return houses


def fewest(web):
    need_few(web)
    best = {}
    reckon_from(web, FIRST_STAND, best)
    floors = [(stand, best[stand][0]) for stand in best]
    return (best[FIRST_STAND][0], best_row(best), floors)


def is_rising_tuple(thing, many):
    return isinstance(thing, tuple) and is_rising(list(thing), many)


def lies_within(web, put_in, number):
    way = web[1][number]
    return number not in put_in and way[1] in lot_at(web, put_in, way[0])


def may_know(web, stand, house):
    lot = lot_at(web, stand[0], house)
    return len(ways_out(web, lot)) == 0 and all([near in stand[2] for near in lot])


def is_stand(web, thing):
    if not is_tuple_of(thing, 3):
        return False
    ways = len(web[1])
    if not (is_rising_tuple(thing[0], ways) and is_rising_tuple(thing[1], ways) and is_rising_tuple(thing[2], web[0])):
        return False
    forest = forest_of(web)
    if not all([number in forest for number in thing[0]]):
        return False
    if not all([lies_within(web, thing[0], number) for number in thing[1]]):
        return False
    return all([may_know(web, thing, house) for house in thing[2]])


def heights_of(floors):
    # Where a stand has several numbers the greatest needs the most, and serves wherever a lesser one would.
    heights = {}
    for floor in floors:
        heights[floor[0]] = max(floor[1], heights.get(floor[0], floor[1]))
    return heights


def is_borne(web, heights, stand, house):
    step = waked_and_ended(web, stand, house)
    needed = heights[stand] - step[0]
    return needed <= 0 or heights.get(step[1], 0) >= needed


def holds(web, heights, stand):
    if heights[stand] <= 0:
        return True
    if len(stand[2]) == web[0]:
        return False
    return all([is_borne(web, heights, stand, house) for house in range(web[0])])


def shows_few(web, number, floors):
    need_few(web)
    if not all([is_stand(web, floor[0]) for floor in floors]):
        return False
    heights = heights_of(floors)
    if FIRST_STAND not in heights or heights[FIRST_STAND] < number:
        return False
    return all([holds(web, heights, stand) for stand in heights])
