"""Points 2 and 5 at every function of these modules: the first wrong argument is the one that is told of."""

import copy
import re
import unittest

from leafwaits import books, differences, errors, late, latebook, leads, live, rounds, rows, rules, runs, scripts, seen
from leafwaits import stairs, texts, windows
from leafwaits.books import Book
from leafwaits.live import Hall
from leafwaits.rules import Rule
from leafwaits.seen import Sights
from leafwaits.stairs import Stair
from support import any_objects

FLAT = Rule(("last", [("of", "ann", 1), ("of", "bob", 0)]))
HUNG = Rule(("last", [("of", "ann", 1), ("now", "bob", 0)]))
BOOK = Book([("ann", FLAT), ("bob", Rule(("of", "bob", 2)))])
HOURS = {"ann": 3, "bob": 4}


def is_rule(value):
    return isinstance(value, Rule)


def is_book(value):
    return isinstance(value, Book)


def is_whole(value):
    return type(value) is int


def is_count_from_1(value):
    return type(value) is int and value >= 1


def is_name(value):
    return isinstance(value, str) and re.fullmatch("[a-z]{1,8}", value) is not None


def is_hours_of(*names):
    def is_right(value):
        return (isinstance(value, dict) and all(is_name(key) and type(value[key]) is int for key in value)
                and all(name in value for name in names))
    return is_right


def is_lates(value):
    return is_hours_of()(value) and all(key in ("ann", "bob") for key in value)


def is_count_within(least, most):
    return lambda value: type(value) is int and least <= value <= most


def is_stair(value):
    return isinstance(value, Stair)


def is_stair_list(value):
    return isinstance(value, list) and 1 <= len(value) <= 6 and all(is_stair(stair) for stair in value)


def is_corners(value):
    return (isinstance(value, list) and all(type(corner) is int and corner >= 0 for corner in value)
            and value == sorted(set(value)))


def is_names_of(*names):
    def is_right(value):
        return (isinstance(value, list) and all(isinstance(name, str) and name in names for name in value)
                and len(set(value)) == len(value))
    return is_right


def is_ascending(value):
    return isinstance(value, list) and value != [] and all(map(is_name, value)) and value == sorted(set(value))


def is_span(value):
    return (isinstance(value, tuple) and len(value) == 2 and all(end is None or type(end) is int for end in value)
            and (None in value or value[0] <= value[1]))


def is_windows(value):
    return isinstance(value, dict) and all(
        isinstance(key, tuple) and len(key) == 2 and type(key[0]) is int and 0 <= key[0] <= 2
        and is_scribe(key[1]) and is_span(span) for key, span in value.items())


def is_seen_row(value):
    return (isinstance(value, tuple) and len(value) == 3 and is_hours_of("ann", "bob")(value[0])
            and len(value[0]) == 2 and is_span(value[1:]))


def is_seen(value):
    return isinstance(value, list) and all(is_seen_row(row) for row in value)


def is_sights(value):
    return isinstance(value, Sights)


def is_exact(value):
    return is_sights(value) and value.most() is not None and all(low == high for _, low, high in value.rows())


def is_most(value):
    return value is None or (type(value) is int and value >= 0)


def is_just_hours(value):
    return is_hours_of("ann", "bob")(value) and len(value) == 2


def is_all_sights(value):
    return isinstance(value, dict) and "ann" in value and is_sights(value["ann"])


def is_scribe(value):
    return isinstance(value, str) and value in ("ann", "bob")


# Each call: the function, and for each parameter its name, a right argument, what is right, and the error.
RULE = ("rule", HUNG, is_rule, "InvalidRule")
BARE = ("rule", FLAT, is_rule, "InvalidRule")
ONE = ("one", FLAT, is_rule, "InvalidRule")
OTHER = ("other", FLAT, is_rule, "InvalidRule")
ONE_BOOK = ("one", BOOK, is_book, "InvalidBook")
OTHER_BOOK = ("other", BOOK, is_book, "InvalidBook")
ANY_BOOK = ("book", BOOK, is_book, "InvalidBook")
MANY = ("many", 2, is_count_from_1, "InvalidCount")
ROW_LIST = ("some", [[("ann", 1)]], lambda value: value == [[("ann", 1)]], "InvalidRows")
ALL_HOURS = ("hours", HOURS, is_hours_of("ann", "bob"), "InvalidHours")
ANY_NUMBER = ("number", 1, is_whole, "InvalidWhole")
ANY_VALUE = ("value", None, lambda value: True, None)
LATES = ("lates", {"bob": 2}, is_lates, "InvalidLates")
NAME = ("name", "ann", is_scribe, "UnknownName")
WHO = ("who", "bob", is_scribe, "UnknownName")
ROUND = ("many", 2, is_count_within(1, 3), "InvalidCount")
ROUND_FROM_0 = ("many", 2, is_count_within(0, 10 ** 31), "InvalidCount")
NAMES = ("names", ["bob", "ann"], is_names_of("ann", "bob"), "InvalidNames")
STILL = ("still", ["bob"], is_names_of("ann", "bob"), "InvalidNames")
WINDOWS = ("windows", {(1, "ann"): (None, 5), (0, "bob"): (1, 2)}, is_windows, "InvalidWindows")
SEEN = Sights(["ann", "bob"], 3, [({"ann": 0, "bob": 1}, 2, 3), ({"ann": 5, "bob": 1}, None, 7)])
SIGHTS = ("sights", SEEN, is_sights, "InvalidSights")
EXACT = ("sights", Sights(["ann", "bob"], 3, [({"ann": 0, "bob": 1}, 3, 3)]), is_exact, "InvalidSights")
ONE_SIGHTS = ("one", SEEN, is_sights, "InvalidSights")
OTHER_SIGHTS = ("other", SEEN.without(1), lambda value: value == SEEN, "InvalidSights")
ONE_STAIR = ("one", Stair(2, [1]), lambda value: is_stair(value) and value.begin >= 0, "InvalidStair")


def on_new_hall(method):
    """A method of a hall, called on a new one each time."""
    def called(*things, **named_things):
        return getattr(Hall(BOOK, HOURS), method)(*things, **named_things)
    called.__name__ = method
    return called


def is_hall(value):
    return isinstance(value, Hall)


def is_book_of_several(value):
    return is_book(value) and len(value) > 1


def is_own_rule(value):
    return value == Rule(("of", "ann", 1))


def is_empty(value):
    return value == "" or value == []


SEVERAL = ("book", BOOK, is_book_of_several, "InvalidBook")
NOW_HALL = ("hall", Hall(BOOK, HOURS), is_hall, "InvalidHall")
ONE_HALL = ("one", Hall(BOOK, HOURS), is_hall, "InvalidHall")
OTHER_HALL = ("other", Hall(BOOK.changed("bob", FLAT), HOURS), is_hall, "InvalidHall")
SCRIPT = ("script", [("hours",), ("try", [("round", 2), ("leave", "ann")]), ("undo",)], is_empty, "InvalidScript")
ONE_SCRIPT = ("one", [("late", "bob", 2), ("round", 2)], is_empty, "InvalidScript")
OTHER_SCRIPT = ("other", [("round", 2), ("late", "bob", 2)], is_empty, "InvalidScript")


def text_call(kind, error, value, is_right, *texts_of_some):
    """The calls of the two functions of one kind of texts."""
    written, read = getattr(texts, kind[0]), getattr(texts, "read_" + kind[0].split("_")[0])
    return [(written, [(kind[1], value, is_right, error)]),
            (read, [("text", written(value), lambda other: other in texts_of_some, "InvalidText")])]


def is_run(value):
    return isinstance(value, list) and all(map(is_hours_of(), value))


def is_any_windows(value):
    return isinstance(value, dict) and all(
        isinstance(key, tuple) and len(key) == 2 and type(key[0]) is int and key[0] >= 0
        and is_name(key[1]) and is_span(span) for key, span in value.items())


def is_table(value):
    return isinstance(value, dict) and (not value or isinstance(value.get("ann"), Rule))


CALLS = [
    (rules.told, [RULE, ("hours", HOURS, is_hours_of("ann"), "InvalidHours"),
                  ("now", HOURS, is_hours_of("bob"), "InvalidHours")]),
    (rules.named, [RULE]),
    (rules.shifted, [RULE, ("by", 2, is_whole, "InvalidWhole")]),
    (rules.mirrored, [RULE]),
    (rules.put_in, [RULE, ("rules", {"ann": FLAT}, is_table, "InvalidRules")]),
    (rules.parts, [RULE]),
    (rules.waited, [RULE, ("path", (0,), lambda value: value == (0,) and value[0] is not False, "InvalidPath"),
                    ("wait", 2, is_whole, "InvalidWhole")]),
    (rules.left_out, [RULE, ("paths", [(0,)], lambda value: value == [] or value == [(0,)], "InvalidPath")]),
    (rows.rows, [BARE]),
    (rows.matters, [BARE]),
    (rows.columns, [BARE]),
    (rows.of_rows, [ROW_LIST]),
    (rows.of_columns, [ROW_LIST]),
    (rows.never_behind, [ONE, OTHER]),
    (rows.alike, [ONE, OTHER]),
    (rows.parting, [ONE, OTHER]),
    (rows.check_parting, [ONE, OTHER, ("value", None, lambda value: True, None)]),
    (rows.reasons, [ONE, OTHER]),
    (rows.is_reasons, [ONE, OTHER, ("value", None, lambda value: True, None)]),
    (rows.telling, [BARE, ALL_HOURS]),
    (rows.alone, [BARE, ("row", [("ann", 1), ("bob", 0)], lambda value: False, "InvalidRows")]),
    (rows.slack, [BARE]),
    (rows.lean, [BARE]),
    (books.hours_behind, [ANY_BOOK, ALL_HOURS]),
    (books.flat, [ANY_BOOK]),
    (books.then, [ONE_BOOK, OTHER_BOOK]),
    (books.after, [ANY_BOOK, MANY]),
    (books.beside, [ONE_BOOK, ("other", Book([("cy", Rule(("of", "cy", 0)))]), is_book, "InvalidBook")]),
    (books.renamed, [ANY_BOOK, ("names", {"ann": "bob", "bob": "ann"}, lambda value: value in [{}, {"ann": "ann"}],
                                "InvalidNames")]),
    (books.turned_about, [ANY_BOOK]),
    (books.alike_books, [ONE_BOOK, OTHER_BOOK]),
    (books.parting_after, [ONE_BOOK, OTHER_BOOK, MANY]),
    (books.check_parting_after, [ONE_BOOK, OTHER_BOOK, MANY, ("value", None, lambda value: True, None)]),
    (rounds.run, [ANY_BOOK, ALL_HOURS, ROUND_FROM_0]),
    (rounds.hours_after, [ANY_BOOK, ALL_HOURS, ROUND_FROM_0]),
    (rounds.first_round, [ANY_BOOK, ALL_HOURS, NAME, ("hour", 9, is_whole, "InvalidWhole"),
                          ("most", 2, ROUND_FROM_0[2], "InvalidCount")]),
    (rounds.meeting, [ANY_BOOK, ("one",) + ALL_HOURS[1:], ("other",) + ALL_HOURS[1:],
                      ("most", 2, ROUND_FROM_0[2], "InvalidCount")]),
    (latebook.late_rule, [BARE]),
    (latebook.is_late_rule, [BARE]),
    (latebook.same_lates, [ONE, OTHER]),
    (latebook.parting_lates, [ONE, OTHER]),
    (latebook.late_book, [ANY_BOOK]),
    (latebook.late_after, [ANY_BOOK, MANY]),
    (latebook.over_told, [ANY_BOOK, MANY]),
    (latebook.whole_names, [BARE]),
    (latebook.harmless, [BARE, ("most", -3, is_whole, "InvalidWhole")]),
    (late.late_at, [ANY_BOOK, LATES, ALL_HOURS, ("many", 2, is_count_within(0, 30), "InvalidCount")]),
    (late.most_late, [ANY_BOOK, LATES, NAME, ROUND]),
    (late.least_late, [ANY_BOOK, LATES, NAME, ROUND]),
    (late.late_hours, [ANY_BOOK, LATES, NAME, ROUND, ANY_NUMBER]),
    (late.late_stair, [ANY_BOOK, WHO, NAME, ROUND]),
    (late.reached, [ANY_BOOK, WHO, ROUND]),
    (late.held_late, [ANY_BOOK, LATES, NAME, ROUND, ("held", ["bob"], lambda value: value in [[], ["ann"], ["ann", "bob"]],
                                                     "InvalidNames")]),
    (late.stopping, [ANY_BOOK, WHO, NAME, ROUND]),
    (late.can_ever, [ANY_BOOK, WHO, NAME]),
    (late.is_can_ever, [ANY_BOOK, WHO, NAME, ANY_VALUE]),
    (stairs.Stair, [("begin", -2, is_whole, "InvalidWhole"),
                    ("corners", [0, 2], is_corners, "InvalidCorners")]),
    (stairs.Stair(1, [2]).value, [("count", 3, is_count_within(0, 10 ** 31), "InvalidCount")]),
    (stairs.Stair(1, [2]).undone, [ANY_NUMBER]),
    (stairs.Stair(1, [2]).shifted, [("by", -2, is_whole, "InvalidWhole")]),
    (stairs.first_of, [("stairs", [Stair(0, [1])], is_stair_list, "InvalidStair")]),
    (stairs.last_of, [("stairs", [Stair(0, [1])], is_stair_list, "InvalidStair")]),
    (stairs.rank_of, [("number", 1, is_count_from_1, "InvalidCount"),
                      ("stairs", [Stair(0, [1]), Stair(0, [])], is_stair_list, "InvalidStair")]),
    (stairs.put_behind, [ONE_STAIR, ("other", Stair(-2, [1]), is_stair, "InvalidStair")]),
    (stairs.first_unlike, [("one", Stair(-2, []), is_stair, "InvalidStair"),
                           ("other", Stair(-2, [1]), is_stair, "InvalidStair")]),
    (stairs.widest_stair, [("one", Stair(-2, []), is_stair, "InvalidStair"),
                           ("other", Stair(-2, [1]), is_stair, "InvalidStair")]),
    (runs.carried, [ANY_BOOK, ALL_HOURS, NAMES, ROUND_FROM_0]),
    (runs.spare, [ANY_BOOK, ALL_HOURS, NAMES, NAME, ROUND_FROM_0, ("limit", 5, is_whole, "InvalidWhole")]),
    (runs.felt, [ANY_BOOK, ALL_HOURS, NAMES, ("count", 3, is_count_within(0, 10 ** 31), "InvalidCount"), ROUND_FROM_0]),
    (runs.leeway, [BARE, ALL_HOURS, NAME]),
    (runs.holders, [BARE, ALL_HOURS]),
    (runs.hasteners, [BARE, ALL_HOURS]),
    (runs.pacers, [BARE, ALL_HOURS]),
    (runs.delayers, [BARE, ALL_HOURS]),
    (runs.earlier_hours, [BARE, ALL_HOURS, STILL]),
    (runs.later_hours, [BARE, ALL_HOURS, STILL]),
    (runs.check_earlier, [BARE, ALL_HOURS, STILL, ANY_VALUE]),
    (runs.check_later, [BARE, ALL_HOURS, STILL, ANY_VALUE]),
    (runs.deciding, [BARE, ALL_HOURS]),
    (runs.open_names, [BARE, ALL_HOURS]),
    (windows.keeps, [ANY_BOOK, WINDOWS, ALL_HOURS]),
    (windows.first_broken, [ANY_BOOK, WINDOWS, ALL_HOURS]),
    (windows.ends, [ANY_BOOK, WINDOWS]),
    (windows.begins, [ANY_BOOK, WINDOWS]),
    (windows.boxes, [ANY_BOOK, WINDOWS]),
    (windows.some_hours, [ANY_BOOK, WINDOWS]),
    (windows.why_none, [ANY_BOOK, WINDOWS]),
    (windows.room, [ANY_BOOK, WINDOWS, ALL_HOURS, NAME]),
    (windows.common_room, [ANY_BOOK, WINDOWS, ALL_HOURS]),
    (windows.tightest, [ANY_BOOK, WINDOWS]),
    (windows.same_windows, [ANY_BOOK, ("one",) + WINDOWS[1:], ("other", {}) + WINDOWS[2:]]),
    (windows.widening, [ANY_BOOK, WINDOWS]),
    (Sights, [("names", ["ann", "bob"], is_ascending, "InvalidNames"),
              ("most", 3, is_most, "InvalidCount"), ("rows", SEEN.rows(), is_seen, "InvalidSights")]),
    (SEEN.with_row, [("row", ({"ann": 0, "bob": 1}, 2, None), is_seen_row, "InvalidSights")]),
    (SEEN.without, [("at", 1, is_count_within(0, 1), "InvalidCount")]),
    (seen.fits, [SIGHTS]),
    (seen.clash, [SIGHTS]),
    (seen.check_clash, [SIGHTS, ANY_VALUE]),
    (seen.latest_rows, [SIGHTS]),
    (seen.earliest_columns, [SIGHTS]),
    (seen.latest_at, [SIGHTS, ALL_HOURS]),
    (seen.earliest_at, [SIGHTS, ALL_HOURS]),
    (seen.rule_fits, [SIGHTS, BARE]),
    (seen.moments, [SIGHTS, ALL_HOURS]),
    (seen.rule_with, [SIGHTS, ALL_HOURS, ("hour", 5, is_whole, "InvalidWhole")]),
    (seen.after_rounds, [("seen", {"ann": SEEN, "bob": SEEN}, is_all_sights, "InvalidSights"),
                         ("hours", HOURS, is_just_hours, "InvalidHours"), ROUND_FROM_0]),
    (seen.must_see, [SIGHTS]),
    (seen.lots_seen, [SIGHTS]),
    (seen.lots_stop, [SIGHTS]),
    (seen.same_sights, [ONE_SIGHTS, OTHER_SIGHTS]),
    (seen.unlike_rule, [ONE_SIGHTS, OTHER_SIGHTS]),
    (seen.needless, [SIGHTS]),
    (seen.telling_hours, [SIGHTS]),
    (seen.still_fit, [SIGHTS]),
    (seen.lots_wrong, [SIGHTS]),
    (seen.watched, [ANY_BOOK, ALL_HOURS, ("many", 2, is_count_within(0, 8), "InvalidCount"),
                    ("most", None, is_most, "InvalidCount")]),
    (seen.last_latest, [EXACT]),
    (seen.last_moments, [EXACT, ALL_HOURS]),
    (differences.spread, [ONE, OTHER]),
    (differences.hours_of, [ONE, OTHER, ANY_NUMBER]),
    (differences.why_at_most, [ONE, OTHER, ANY_NUMBER]),
    (differences.is_why_at_most, [ONE, OTHER, ANY_NUMBER, ANY_VALUE]),
    (leads.lead, [ANY_BOOK, ("one",) + NAME[1:], ("other", "bob") + NAME[2:], MANY]),
    (leads.lead_hours, [ANY_BOOK, ("one",) + NAME[1:], ("other", "bob") + NAME[2:], ANY_NUMBER, MANY]),
    (leads.front, [SEVERAL, NAME, MANY]),
    (leads.front_hours, [SEVERAL, NAME, ANY_NUMBER, MANY]),
    (leads.rear, [SEVERAL, NAME, MANY]),
    (leads.rear_hours, [SEVERAL, NAME, ANY_NUMBER, MANY]),
    (leads.sure_order, [ANY_BOOK]),
    (Hall, [ANY_BOOK, ("hours", HOURS, is_just_hours, "InvalidHours")]),
    (on_new_hall("round"), [ROUND_FROM_0]),
    (on_new_hall("late"), [NAME, ("by", 3, is_count_within(0, 10 ** 31), "InvalidCount")]),
    (on_new_hall("put"), [NAME, ("rule", Rule(("of", "bob", 0)), is_own_rule, "InvalidRule")]),
    (on_new_hall("join"), [("name", "cy", is_name, "InvalidName"), ("rule", Rule(("now", "bob", 0)), is_rule, "InvalidRule"),
                           ("hour", -3, is_whole, "InvalidWhole")]),
    (on_new_hall("leave"), [NAME]),
    (on_new_hall("reach"), [NAME, ROUND_FROM_0]),
    (on_new_hall("spare"), [NAME, ("other", "bob") + NAME[2:], ROUND_FROM_0]),
    (live.replayed, [ANY_BOOK, ("hours", HOURS, is_just_hours, "InvalidHours"),
                     ("log", [("round", 2), ("late", "ann", 1)], lambda value: value in [[], [("round", -1)]], "InvalidLog")]),
    (live.same_runs, [ONE_HALL, OTHER_HALL]),
    (live.alike_halls, [ONE_HALL, OTHER_HALL]),
    (live.parting_changes, [ONE_HALL, OTHER_HALL]),
    (live.check_parting_changes, [ONE_HALL, OTHER_HALL, ANY_VALUE]),
    (scripts.play, [NOW_HALL, SCRIPT]),
    (scripts.script_text, [SCRIPT]),
    (scripts.read_script, [("text", "undo\nhours", is_empty, "InvalidText")]),
    (scripts.refused, [ANY_BOOK, SCRIPT]),
    (scripts.same_end, [ANY_BOOK, ONE_SCRIPT, OTHER_SCRIPT]),
    (scripts.parting_begin, [ANY_BOOK, ONE_SCRIPT, OTHER_SCRIPT]),
    (scripts.check_parting_begin, [ANY_BOOK, ONE_SCRIPT, OTHER_SCRIPT, ANY_VALUE]),
    (scripts.trimmed, [ANY_BOOK, SCRIPT]),
    *text_call(("rule_text", "rule"), "InvalidRule", HUNG, is_rule),
    *text_call(("book_text", "book"), "InvalidBook", BOOK, is_book),
    *text_call(("hours_text", "hours"), "InvalidHours", HOURS, is_hours_of()),
    *text_call(("run_text", "every"), "InvalidHours", [HOURS, {}], is_run, ""),
    *text_call(("rows_text", "some"), "InvalidRows", [[("ann", 1)]], ROW_LIST[2]),
    *text_call(("windows_text", "windows"), "InvalidWindows", WINDOWS[1], is_any_windows, ""),
    *text_call(("stair_text", "stair"), "InvalidStair", Stair(2, [1]), is_stair),
    *text_call(("sights_text", "sights"), "InvalidSights", SEEN, is_sights),
    (books.alike_from, [ONE_BOOK, OTHER_BOOK, ("most", 2, is_count_from_1, "InvalidCount")]),
]


class ArgumentsTest(unittest.TestCase):
    def check_raises(self, call, arguments, name, error):
        with self.assertRaises(errors.LeafError, msg=(call.__name__, name, arguments[name])) as caught:
            call(**arguments)
        self.assertEqual(type(caught.exception).__name__, error, (call.__name__, name, arguments[name]))
        self.assertIs(caught.exception.value, arguments[name])

    def test_right_arguments_by_name_and_by_position(self):
        for call, parameters in CALLS:
            arguments = {name: right for name, right, _, _ in parameters}
            call(**arguments)
            call(*arguments.values())

    def test_wrong_arguments(self):
        for call, parameters in CALLS:
            for at, (name, _, is_right, error) in enumerate(parameters):
                for value in any_objects():
                    if is_right(value):
                        continue
                    arguments = {parameter[0]: parameter[1] for parameter in parameters}
                    arguments[name] = value
                    self.check_raises(call, arguments, name, error)
                    arguments.update({parameter[0]: [None] for parameter in parameters[at + 1:]})
                    self.check_raises(call, arguments, name, error)

    def test_not_flat(self):
        asked = 0
        for call, parameters in CALLS:
            for at, parameter in enumerate(parameters):
                if parameter[0] in ("rule", "one", "other") and parameter[1] is FLAT:
                    arguments = {other[0]: other[1] for other in parameters[:at]}
                    arguments.update({other[0]: [None] for other in parameters[at:]})
                    arguments[parameter[0]] = HUNG
                    self.check_raises(call, arguments, parameter[0], "NotFlat")
                    asked += 1
        self.assertEqual(asked, 47)

    def test_nothing_is_changed(self):
        for call, parameters in CALLS:
            arguments = {name: right for name, right, _, _ in parameters}
            before = [readable(value) for value in arguments.values()]
            first = repr(readable(call(**arguments)))
            with self.assertRaises(errors.LeafError):
                call(**dict(arguments, **{parameters[0][0]: None}))
            self.assertEqual(repr([readable(value) for value in arguments.values()]), repr(before))
            self.assertEqual(repr(readable(call(**arguments))), first)

    def test_what_is_returned_can_be_changed(self):
        for call, parameters in CALLS:
            arguments = {name: right for name, right, _, _ in parameters}
            value = call(**arguments)
            first = repr(readable(value))
            empty(value)
            self.assertEqual(repr(readable(call(**arguments))), first)


def empty(value):
    """Empties all lists and dictionaries within a value."""
    if isinstance(value, (list, tuple, dict)):
        for inner in value.values() if isinstance(value, dict) else value:
            empty(inner)
    if isinstance(value, (list, dict)):
        value.clear()
    if isinstance(value, Rule):
        empty(value.term())
    if isinstance(value, Stair):
        empty(value.corners)
    if isinstance(value, Sights):
        empty(value.names())
        empty(value.rows())
    if isinstance(value, Hall):
        empty(value.hours())
        empty(value.log())


def readable(value):
    if isinstance(value, Rule):
        return value.term()
    if isinstance(value, Stair):
        return (value.begin, value.corners)
    if isinstance(value, Sights):
        return (value.names(), value.most(), value.rows())
    if isinstance(value, Hall):
        return readable([value.book(), value.hours(), value.rounds(), value.log()])
    if isinstance(value, (tuple, list)):
        return type(value)(readable(inner) for inner in value)
    if isinstance(value, Book):
        return [(name, value.rule(name).term()) for name in value.names()]
    if isinstance(value, dict):
        return {key: readable(inner) for key, inner in value.items()}
    return copy.deepcopy(value)


if __name__ == "__main__":
    unittest.main()
