"""Marks: each lot bears one, and where two join the lot with fewer houses takes the other one's."""

from lotjoin.errors import NoJoin
from lotjoin.lots import need_ways


def joined_marks(marks, one, other):
    # The first of the pair goes: the one with fewer houses, of as many the greater one.
    pair = sorted([marks[one], marks[other]], key=lambda mark: (marks.count(mark), -mark))
    return [pair[1] if mark == pair[0] else mark for mark in marks]


def marks_of(web, ways):
    need_ways(web, ways)
    marks = list(range(web[0]))
    taken = [0] * web[0]
    for place, number in enumerate(ways):
        way = web[1][number]
        if marks[way[0]] == marks[way[1]]:
            raise NoJoin(place)
        later = joined_marks(marks, way[0], way[1])
        taken = [taken[house] if marks[house] == mark else taken[house] + 1 for house, mark in enumerate(later)]
        marks = later
    return (marks, taken)
