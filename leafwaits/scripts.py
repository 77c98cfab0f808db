"""Scripts: what is done with a hall, told by commands, and which scripts end alike for all hours."""

from leafwaits.books import need_book, rows_behind
from leafwaits.canon import plain_rows
from leafwaits.checks import is_just_hours
from leafwaits.commands import indented, is_script, script_in, script_lines
from leafwaits.edges import moved_rows
from leafwaits.errors import InvalidRule, InvalidScript, InvalidText, NothingToRedo, NothingToUndo, StillNeeded
from leafwaits.errors import TakenName, UnknownName
from leafwaits.gaps import hours_parting
from leafwaits.likeness import unlike_name
from leafwaits.live import Hall, alike_halls, need_hall
from leafwaits.texts import hours_text

# No name is empty, so this one is never that of a scribe; it stands for hour 0.
NOUGHT = ""


def _need_script(value):
    """Raises InvalidScript unless an object is a script."""
    if not is_script(value):
        raise InvalidScript(value)


def play(hall, script):
    """Carries out a script on a hall, and tells what is said."""
    need_hall(hall)
    _need_script(script)
    return [_answer(hall, command) for command in script]


def _answer(hall, command):
    """What is said where a command is carried out on a hall, perhaps that it is refused."""
    try:
        return _carried_out(hall, command)
    except UnknownName:
        return ("refused", "UnknownName")
    except TakenName:
        return ("refused", "TakenName")
    except InvalidRule:
        return ("refused", "InvalidRule")
    except StillNeeded:
        return ("refused", "StillNeeded")
    except NothingToUndo:
        return ("refused", "NothingToUndo")
    except NothingToRedo:
        return ("refused", "NothingToRedo")


def _carried_out(hall, command):
    word = command[0]
    if word == "round":
        return ("passed", hall.round(command[1]))
    if word == "hours":
        return ("hours", hall.hours())
    if word == "try":
        return ("tried", hall.attempt(lambda same: play(same, command[1])))
    if word == "late":
        hall.late(command[1], command[2])
    elif word == "put":
        hall.put(command[1], command[2])
    elif word == "join":
        hall.join(command[1], command[2], command[3])
    elif word == "leave":
        hall.leave(command[1])
    elif word == "undo":
        hall.undo()
    else:
        hall.redo()
    return ("done",)


def script_text(script):
    """The text of a script."""
    _need_script(script)
    return "\n".join(script_lines(script))


def read_script(text):
    """The script that has a text."""
    if not isinstance(text, str):
        raise InvalidText(text)
    script = script_in(text.split("\n")) if text else []
    if not is_script(script) or script_text(script) != text:
        raise InvalidText(text)
    return script


def said_text(said):
    """The text of what is said where a script is played."""
    return "\n".join(_said_lines(said))


def _said_lines(said):
    lines = []
    for item in said:
        word = item[0]
        if word in ("passed", "hours"):
            lines.append(f"{word} {hours_text(item[1])}")
        elif word == "tried":
            lines.extend(["tried"] + indented(_said_lines(item[1])))
        else:
            lines.append(" ".join(item))
    return lines


def refused(book, script):
    """The ascending list of the positions of the commands of a script that are refused."""
    need_book(book)
    _need_script(script)
    said = play(_hall_at_nought(book), script)
    return [at for at, item in enumerate(said) if item[0] == "refused"]


def _hall_at_nought(book):
    return Hall(book, {name: 0 for name in book.names()})


def _need_scripts(book, one, other):
    need_book(book)
    _need_script(one)
    _need_script(other)


def same_end(book, one, other):
    """Whether, for all hours, the halls of a book are alike behind two scripts."""
    _need_scripts(book, one, other)
    return _hours_unlike(book, one, other) is None


def parting_begin(book, one, other):
    """Any hours from which on the halls of a book are unlike behind two scripts, None if there are none."""
    _need_scripts(book, one, other)
    return _hours_unlike(book, one, other)


def check_parting_begin(book, one, other, value):
    """Whether an object is hours from which on the halls of a book are unlike behind two scripts."""
    _need_scripts(book, one, other)
    if not is_just_hours(value, book.names()):
        return False
    halls = [Hall(book, value), Hall(book, value)]
    play(halls[0], one)
    play(halls[1], other)
    return not alike_halls(halls[0], halls[1])


def _hours_unlike(book, one, other):
    mine = _hall_behind(book, one)
    others = _hall_behind(book, other)
    if mine.log() == others.log():
        return None
    nought = {name: 0 for name in book.names()}
    if mine.book().names() != others.book().names() or unlike_name(mine.book(), others.book()) is not None:
        return nought
    found = _rows_behind_log(book, mine.log())
    known = _rows_behind_log(book, others.log())
    for name in found:
        if found[name] != known[name]:
            hours = hours_parting(found[name], known[name], book.names() + [NOUGHT])
            return {each: hours[each] - hours[NOUGHT] for each in nought}
    return None


def _hall_behind(book, script):
    hall = _hall_at_nought(book)
    play(hall, script)
    return hall


def _rows_behind_log(book, log):
    """For each scribe the canonical rows of its hour behind the changes of a log, over the hours of the beginning."""
    found = plain_rows(book.names())
    hall = _hall_at_nought(book)
    for change in log:
        word = change[0]
        if word == "round":
            for _ in range(change[1]):
                found = rows_behind(hall.book(), found)
            continue
        _carried_out(hall, change)
        if word == "late":
            found[change[1]] = moved_rows(found[change[1]], change[2])
        elif word == "join":
            found[change[1]] = [[(NOUGHT, change[3])]]
        elif word == "leave":
            found = {name: some for name, some in found.items() if name != change[1]}
    return found


def trimmed(book, script):
    """A script without each command, from the last one on, without which what is left by then ends alike."""
    need_book(book)
    _need_script(script)
    left = list(script)
    for at in range(len(script) - 1, -1, -1):
        fewer = left[:at] + left[at + 1:]
        if _hours_unlike(book, script, fewer) is None:
            left = fewer
    return left
