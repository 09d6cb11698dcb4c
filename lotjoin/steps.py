"""Steps: ways put in by cuts and left out by rings, in any order."""

from lotjoin.errors import NoStep
from lotjoin.roads import greatest_of, is_ring, is_rising, least_of, lot_at, road_of, ways_out
from lotjoin.webs import is_tuple_of, need_web


def way_by_cut(web, put_in, left_out, houses):
    if not is_rising(houses, web[0]):
        return None
    out = ways_out(web, houses)
    if any([number in put_in for number in out]):
        return None
    return least_of(web, [number for number in out if number not in left_out])


def way_by_ring(web, put_in, left_out, ways):
    if not is_rising(ways, len(web[1])) or not is_ring(web, ways):
        return None
    if any([number in left_out for number in ways]):
        return None
    return greatest_of(web, [number for number in ways if number not in put_in])


def way_by_step(web, put_in, left_out, step):
    if not is_tuple_of(step, 2):
        return None
    if step[0] == "cut":
        return way_by_cut(web, put_in, left_out, step[1])
    if step[0] == "ring":
        return way_by_ring(web, put_in, left_out, step[1])
    return None


def stand_of(web, steps):
    need_web(web)
    put_in = []
    left_out = []
    for place, step in enumerate(steps):
        number = way_by_step(web, put_in, left_out, step)
        if number is None:
            raise NoStep(place)
        if step[0] == "cut":
            put_in.append(number)
        else:
            left_out.append(number)
    return (sorted(put_in), sorted(left_out))


def step_for(web, put_in, number):
    # No way put in leads out of a lot of these; and they have no ring, so with a way within a lot they make just one.
    way = web[1][number]
    lot = lot_at(web, put_in, way[0])
    if way[1] not in lot:
        return ("cut", lot)
    return ("ring", sorted(road_of(web, put_in, way[0], way[1]) + [number]))


def step_of(web, steps):
    stand = stand_of(web, steps)
    settled = stand[0] + stand[1]
    unsettled = [number for number in range(len(web[1])) if number not in settled]
    if len(unsettled) == 0:
        return None
    return step_for(web, stand[0], unsettled[0])
