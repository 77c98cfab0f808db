"""What kind of value an object is: whole numbers, counts, names, hours, rows, paths."""

from leafwaits.errors import InvalidCount, InvalidHours, InvalidNames, InvalidWhole, UnknownName

LONGEST_NAME = 8


def is_whole(value):
    """Whether an object is a whole number; True and False are none."""
    return isinstance(value, int) and not isinstance(value, bool)


def is_count(value):
    """Whether an object is a whole number of at least 0."""
    return is_whole(value) and value >= 0


def is_name(value):
    """Whether an object is a string of 1 to 8 signs a to z."""
    if not isinstance(value, str) or not 1 <= len(value) <= LONGEST_NAME:
        return False
    return all(["a" <= sign <= "z" for sign in value])


def is_one_of(value, names):
    """Whether an object is one of some names."""
    return is_name(value) and value in names


def is_hours(value, names):
    """Whether an object is a dictionary from names to hours that has all of some names."""
    if not isinstance(value, dict) or not all([is_name(key) for key in value]):
        return False
    return all([is_whole(hour) for hour in value.values()]) and all([name in value for name in names])


def is_just_hours(value, names):
    """Whether an object is a dictionary from just some names to hours."""
    return is_hours(value, names) and len(value) == len(names)


def is_span(value):
    """Whether an object is a tuple of a low and a high, each an hour or None, the low not behind the high."""
    if not isinstance(value, tuple) or len(value) != 2:
        return False
    if not all([end is None or is_whole(end) for end in value]):
        return False
    return None in value or value[0] <= value[1]


def is_windows(value):
    """Whether an object is a dictionary from tuples of a count and a name to spans."""
    if not isinstance(value, dict) or not all([isinstance(key, tuple) and len(key) == 2 for key in value]):
        return False
    if not all([is_count(many) and is_name(name) for many, name in value]):
        return False
    return all([is_span(span) for span in value.values()])


def is_row(value):
    """Whether an object is an ascending list, not empty, of tuples of different names and waits."""
    if not isinstance(value, list) or not value or not all([_is_entry(entry) for entry in value]):
        return False
    return all([value[at - 1][0] < value[at][0] for at in range(1, len(value))])


def _is_entry(value):
    return isinstance(value, tuple) and len(value) == 2 and is_name(value[0]) and is_whole(value[1])


def is_row_list(value):
    """Whether an object is a list, not empty, of rows."""
    return isinstance(value, list) and len(value) > 0 and all([is_row(row) for row in value])


def is_path(value):
    """Whether an object is a tuple of counts."""
    return isinstance(value, tuple) and all([is_count(step) for step in value])


def need_whole(value):
    """Raises InvalidWhole unless an object is a whole number."""
    if not is_whole(value):
        raise InvalidWhole(value)


def need_count_from(least, value):
    """Raises InvalidCount unless an object is a count of at least some number."""
    if not is_count(value) or value < least:
        raise InvalidCount(value)


def need_count_within(least, most, value):
    """Raises InvalidCount unless an object is a count from one number to another one."""
    need_count_from(least, value)
    if value > most:
        raise InvalidCount(value)


def need_one_of(value, names):
    """Raises UnknownName unless an object is one of some names."""
    if not is_one_of(value, names):
        raise UnknownName(value)


def need_hours(value, names):
    """Raises InvalidHours unless an object is hours of all of some names."""
    if not is_hours(value, names):
        raise InvalidHours(value)


def need_just_hours(value, names):
    """Raises InvalidHours unless an object is hours of just some names."""
    if not is_just_hours(value, names):
        raise InvalidHours(value)


def need_name_list(value, names):
    """Raises InvalidNames unless an object is a list of different ones of some names."""
    if not isinstance(value, list) or not all([is_one_of(name, names) for name in value]):
        raise InvalidNames(value)
    if len(set(value)) < len(value):
        raise InvalidNames(value)
