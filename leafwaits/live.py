"""Halls: scribes who hand on round after round, and what is changed among them and taken back."""

from leafwaits.books import alike_books, need_book
from leafwaits.checks import need_count_from, need_just_hours, need_one_of, need_whole
from leafwaits.errors import InvalidHall, InvalidLog, LeafError, NothingToRedo, NothingToUndo
from leafwaits.likeness import changes_that_part, unlike_name
from leafwaits.rounds import hours_after
from leafwaits.runs import carried

# How many things stand behind the word of each change.
CHANGES = {"round": 1, "late": 2, "put": 2, "join": 3, "leave": 1}


class Trial:
    """A block in which a hall may be changed; when it is left, everything is as it was at its beginning."""

    def __init__(self, hall):
        self._hall = hall
        self._stages = []
        self._changes = []
        self._place = 0

    def __enter__(self):
        hall = self._hall
        self._stages = hall._stages
        self._changes = hall._changes
        self._place = hall._place
        return hall

    def __exit__(self, kind, value, trace):
        hall = self._hall
        hall._stages = self._stages
        hall._changes = self._changes
        hall._place = self._place


class Hall:
    """A hall with a book and hours.

    It keeps all changes that can be taken back or made again, with the book, the hours and the number of rounds ahead
    of the first one and behind each of them; its place among these is how it is now. These lists are never changed,
    but replaced, so copies of the hall, and trials, may keep them.
    """

    def __init__(self, book, hours):
        need_book(book)
        need_just_hours(hours, book.names())
        self._stages = [(book, {name: hours[name] for name in book.names()}, 0)]
        self._changes = []
        self._place = 0

    def book(self):
        """The book as it is now."""
        return self._stages[self._place][0]

    def hours(self):
        """The hours as they are now."""
        return dict(self._stages[self._place][1])

    def rounds(self):
        """The number of the rounds that have passed, those taken back not counted."""
        return self._stages[self._place][2]

    def __len__(self):
        return len(self._stages[self._place][1])

    def _change(self, change, book, hours, rounds):
        stage = (book, {name: hours[name] for name in book.names()}, rounds)
        self._stages = self._stages[:self._place + 1] + [stage]
        self._changes = self._changes[:self._place] + [change]
        self._place = self._place + 1

    def round(self, many=1):
        """Lets so many rounds pass, and tells the hours then."""
        need_count_from(0, many)
        hours = hours_after(self.book(), self.hours(), many)
        self._change(("round", many), self.book(), hours, self.rounds() + many)
        return self.hours()

    def late(self, name, by):
        """Puts the hour of a scribe so much later."""
        need_one_of(name, self.book().names())
        need_count_from(0, by)
        hours = self.hours()
        hours[name] = hours[name] + by
        self._change(("late", name, by), self.book(), hours, self.rounds())

    def put(self, name, rule):
        """Gives a scribe another rule."""
        book = self.book().changed(name, rule)
        self._change(("put", name, rule), book, self.hours(), self.rounds())

    def join(self, name, rule, hour):
        """Puts a scribe with an hour into the hall."""
        book = self.book().with_scribe(name, rule)
        need_whole(hour)
        hours = self.hours()
        hours[name] = hour
        self._change(("join", name, rule, hour), book, hours, self.rounds())

    def leave(self, name):
        """Takes a scribe out of the hall."""
        book = self.book().without(name)
        self._change(("leave", name), book, self.hours(), self.rounds())

    def log(self):
        """The list of the changes that are not taken back."""
        return self._changes[:self._place]

    def undo(self):
        """Takes the last change back that has not been taken back."""
        if self._place == 0:
            raise NothingToUndo()
        self._place = self._place - 1

    def redo(self):
        """Makes the change again that was taken back last."""
        if self._place == len(self._changes):
            raise NothingToRedo()
        self._place = self._place + 1

    def trial(self):
        """What a block is begun with behind which everything is again as it was ahead of it."""
        return Trial(self)

    def attempt(self, action):
        """What a function of the hall returns, called in such a block."""
        with self.trial():
            return action(self)

    def copy(self):
        """An independent hall that is the same in all this."""
        other = Hall(self.book(), self.hours())
        other._stages = self._stages
        other._changes = self._changes
        other._place = self._place
        return other

    def reach(self, name, many):
        """The ascending list of the scribes whose hour, some rounds on, hangs on how late a scribe is now."""
        need_one_of(name, self.book().names())
        need_count_from(0, many)
        stairs = carried(self.book(), self.hours(), [name], many)[many]
        return [other for other, stair in stairs.items() if stair.corners]

    def spare(self, name, other, many):
        """How late a scribe can be without any change of another one's hour some rounds on; None if none is most."""
        need_one_of(name, self.book().names())
        need_one_of(other, self.book().names())
        need_count_from(0, many)
        stair = carried(self.book(), self.hours(), [name], many)[many][other]
        return stair.undone(stair.begin)


def need_hall(value):
    """Raises InvalidHall unless an object is a hall."""
    if not isinstance(value, Hall):
        raise InvalidHall(value)


def replayed(book, hours, log):
    """The hall made of a book and hours in which the changes of a log are made one after the other."""
    hall = Hall(book, hours)
    if not _is_log(log):
        raise InvalidLog(log)
    for change in log:
        _make(hall, change)
    return hall


def _is_log(value):
    """Whether an object is a list of tuples of the word of a change and as many things as stand behind it."""
    return isinstance(value, list) and all([_is_change(change) for change in value])


def _is_change(value):
    if not isinstance(value, tuple) or not value or not isinstance(value[0], str):
        return False
    return value[0] in CHANGES and len(value) == 1 + CHANGES[value[0]]


def _make(hall, change):
    """Makes a change in a hall, or raises its error."""
    word = change[0]
    if word == "round":
        hall.round(change[1])
    elif word == "late":
        hall.late(change[1], change[2])
    elif word == "put":
        hall.put(change[1], change[2])
    elif word == "join":
        hall.join(change[1], change[2], change[3])
    else:
        hall.leave(change[1])


def _can_make(hall, change):
    """Whether a change can be made in a hall; if so, it is made."""
    try:
        _make(hall, change)
    except LeafError:
        return False
    return True


def same_runs(one, other):
    """Whether two halls have the same hours now and behind all rounds that pass and scribes that are late."""
    need_hall(one)
    need_hall(other)
    return one.hours() == other.hours() and alike_books(one.book(), other.book())


def alike_halls(one, other):
    """Whether all changes can be made in both of two halls or in neither, and have the same hours behind them."""
    need_hall(one)
    need_hall(other)
    return one.hours() == other.hours() and unlike_name(one.book(), other.book()) is None


def parting_changes(one, other):
    """Any list of changes that parts two halls, None if they are alike."""
    need_hall(one)
    need_hall(other)
    if one.hours() != other.hours():
        return []
    return changes_that_part(one.book(), other.book(), one.hours())


def check_parting_changes(one, other, value):
    """Whether an object is a list of changes that parts two halls."""
    need_hall(one)
    need_hall(other)
    if not _is_log(value):
        return False
    mine = one.copy()
    others = other.copy()
    for at, change in enumerate(value):
        made = [_can_make(hall, change) for hall in [mine, others]]
        if False in made:
            return True in made and at == len(value) - 1
    return mine.hours() != others.hours()
