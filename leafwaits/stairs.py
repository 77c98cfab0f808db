"""Stairs: whole numbers told for each count, which stay or rise by 1 from one count to the next."""

from leafwaits.checks import is_count, need_count_from, need_whole
from leafwaits.errors import InvalidCorners, InvalidCount, InvalidStair

MOST_STAIRS = 6


class Stair:
    """A stair that never changes; two are equal exactly if their begins and their corners are."""

    def __init__(self, begin, corners):
        need_whole(begin)
        if not _are_corners(corners):
            raise InvalidCorners(corners)
        self._begin = begin
        self._corners = list(corners)

    @property
    def begin(self):
        """What the stair tells for 0."""
        return self._begin

    @property
    def corners(self):
        """The counts at which the stair begins to rise, or to stay, by turns; in a new list each time."""
        return list(self._corners)

    def value(self, count):
        """What the stair tells for a count."""
        need_count_from(0, count)
        return _course(self, [count])[0][0]

    def end(self):
        """The greatest number that the stair comes to, None if it rises for ever."""
        told, rise = _course(self, [0] + self._corners)[-1]
        return None if rise else told

    def undone(self, number):
        """The greatest count for which the stair tells at most a number; None if none is greatest, -1 if none is."""
        need_whole(number)
        if number < self._begin:
            return -1
        for corner, (told, rise) in zip(self._corners[::-1], _course(self, self._corners)[::-1]):
            if told <= number:
                return corner + number - told if rise else None
        return None

    def shifted(self, by):
        """The stair that tells so much more for each count."""
        need_whole(by)
        return Stair(self._begin + by, self._corners)

    def __eq__(self, other):
        return isinstance(other, Stair) and self._begin == other._begin and self._corners == other._corners


def _are_corners(value):
    if not isinstance(value, list) or not all([is_count(corner) for corner in value]):
        return False
    return all([value[at - 1] < value[at] for at in range(1, len(value))])


def _course(stair, counts):
    """For each of some rising counts the tuple of what a stair tells there, and by how much it rises behind it."""
    corners = stair.corners
    course = []
    passed = 0
    base = stair.begin
    for count in counts:
        while passed < len(corners) and corners[passed] <= count:
            base = base - corners[passed] if passed % 2 == 0 else base + corners[passed]
            passed = passed + 1
        course.append((base + count, 1) if passed % 2 == 1 else (base, 0))
    return course


def _along(counts, course):
    """The stair that tells, and rises, at some rising counts from 0 on, as a course says, and turns nowhere else."""
    corners = []
    for count, (_, rise) in zip(counts, course):
        if rise != len(corners) % 2:
            corners.append(count)
    return Stair(course[0][0], corners)


def need_stair(value):
    """Raises InvalidStair unless an object is a stair."""
    if not isinstance(value, Stair):
        raise InvalidStair(value)


def _need_stairs(value):
    if not isinstance(value, list) or not 1 <= len(value) <= MOST_STAIRS:
        raise InvalidStair(value)
    if not all([isinstance(stair, Stair) for stair in value]):
        raise InvalidStair(value)


def first_of(stairs):
    """The stair that tells for each count the least of what some stairs tell."""
    _need_stairs(stairs)
    return stair_of_rank(1, stairs)


def last_of(stairs):
    """The stair that tells for each count the greatest of what some stairs tell."""
    _need_stairs(stairs)
    return stair_of_rank(len(stairs), stairs)


def rank_of(number, stairs):
    """The stair that tells for each count the number-th, from the least on, of what some stairs tell."""
    need_count_from(1, number)
    _need_stairs(stairs)
    if number > len(stairs):
        raise InvalidCount(number)
    return stair_of_rank(number, stairs)


def stair_of_rank(number, stairs):
    """The stair of the number-th of what some stairs tell, however many they are."""
    if number not in (1, len(stairs)):
        return _stair_of_rank_at_once(number, stairs)
    # The least and the greatest are those of two at a time, which spares most crossings.
    found = stairs[0]
    for stair in stairs[1:]:
        found = _stair_of_rank_at_once(1 if number == 1 else 2, [found, stair])
    return found


def _stair_of_rank_at_once(number, stairs):
    """The stair of the number-th of what some stairs tell, by all counts at which two of them may cross."""
    counts = _corners_of(stairs)
    for at, stair in enumerate(stairs):
        for other in stairs[:at]:
            counts = counts + _crossings(stair, other)
    counts = sorted(set(counts))
    courses = [_course(stair, counts) for stair in stairs]
    # Where two tell the same, the one that rises tells more right behind it.
    return _along(counts, [sorted(told)[number - 1] for told in zip(*courses)])


def _corners_of(stairs):
    """The rising counts 0 and the corners of some stairs."""
    return sorted(set([0] + [corner for stair in stairs for corner in stair.corners]))


def _crossings(one, other):
    """Counts among which, corners aside, are all those at which two stairs come to tell the same."""
    counts = _corners_of([one, other])
    course = _course(one, counts)
    others = _course(other, counts)
    # From one corner to the next the two come nearer by 1 for each count, or not at all.
    return [count + abs(told - less) for count, (told, _), (less, _) in zip(counts, course, others)]


def put_behind(one, other):
    """The stair that tells for each count what another stair tells for what a first one tells."""
    need_stair(one)
    if one.begin < 0:
        raise InvalidStair(one)
    need_stair(other)
    counts = _corners_of([one]) + [_first_count(one, corner) for corner in other.corners]
    counts = sorted(set([count for count in counts if count is not None]))
    course = _course(one, counts)
    others = _course(other, [told for told, _ in course])
    return _along(counts, [(told, mine[1] * rise) for mine, (told, rise) in zip(course, others)])


def _first_count(stair, number):
    """The least count for which a stair tells at least a number, None if there is none."""
    below = stair.undone(number - 1)
    return None if below is None else below + 1


def first_unlike(one, other):
    """The least count for which two stairs tell unlike numbers, None if there is none."""
    need_stair(one)
    need_stair(other)
    counts = _corners_of([one, other])
    for count, told, others in zip(counts, _course(one, counts), _course(other, counts)):
        if told != others:
            return count if told[0] != others[0] else count + 1
    return None


def widest_stair(one, other):
    """The greatest number, over all counts, by which a stair tells more than another one; None if none is greatest."""
    need_stair(one)
    need_stair(other)
    counts = _corners_of([one, other])
    course = _course(one, counts)
    others = _course(other, counts)
    if course[-1][1] > others[-1][1]:
        return None
    return max([told - less for (told, _), (less, _) in zip(course, others)])
