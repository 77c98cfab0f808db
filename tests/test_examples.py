"""The examples of sections 3 to 16 of the document, as they stand there."""

import unittest

RULES = '''
from leafwaits.rules import Rule, left_out, mirrored, named, parts, put_in, shifted, told, waited
late = Rule(("last", [("of", "ada", 3), ("first", [("of", "bo", 0), ("now", "cy", 1)])]))
hours, now = {"ada": 5, "bo": 20}, {"cy": 9}
[told(late, hours, now), named(late), told(shifted(late, -2), hours, now)]
# [10, (['ada', 'bo'], ['cy']), 8]
mid = Rule(("rank", 2, [("of", "ada", 0), ("of", "bo", 0), ("of", "ada", 4)]))
[told(mid, {"ada": 5, "bo": 7}), mirrored(mid).term(), parts(mid)[2]]
# [7, ('rank', 2, [('of', 'ada', 0), ('of', 'bo', 0), ('of', 'ada', -4)]), ((2,), ('of', 'ada', 4))]
put = put_in(mid, {"bo": Rule(("first", [("of", "ada", 1), ("of", "cy", 2)]))})
[put.term()[2][1], told(put, {"ada": 5, "cy": 0})]
# [('first', [('of', 'ada', 1), ('of', 'cy', 2)]), 5]
[waited(mid, (1,), 9).term()[2][1], left_out(mid, [(0,)]).term(), left_out(late, [(1, 0), (1, 1)]).term()]
# [('of', 'bo', 9), ('rank', 2, [('of', 'bo', 0), ('of', 'ada', 4)]), ('last', [('of', 'ada', 3)])]
'''

ROWS = '''
from leafwaits.rules import Rule, parts
from leafwaits.rows import alike, alone, columns, lean, matters, never_behind, of_rows, parting, reasons, rows, slack, telling
mid = Rule(("rank", 2, [("of", "ada", 0), ("of", "bo", 0), ("of", "cy", 0)]))
top = Rule(("last", [("first", [("of", "ada", 0), ("of", "bo", 0)]), ("of", "cy", 0)]))
[rows(top), columns(top), len(rows(mid)), never_behind(mid, top), never_behind(top, mid)]
# [[[('ada', 0), ('cy', 0)], [('bo', 0), ('cy', 0)]], [[('ada', 0), ('bo', 0)], [('cy', 0)]], 3, True, False]
[reasons(mid, top)[1][0], reasons(top, mid)[0], alike(of_rows(rows(mid)), mid), parting(top, top)]
# [([('ada', 0), ('cy', 0)], [('ada', 0), ('cy', 0)]), 'behind', True, None]
soon = Rule(("first", [("last", [("of", "bo", 1), ("of", "ada", 0)]), ("of", "ada", 2)]))
[telling(soon, {"ada": 5, "bo": 3}), of_rows(rows(soon)).term(), alone(soon, [("ada", 2)])["bo"] > alone(soon, [("ada", 2)])["ada"] + 1]
# [[[('ada', 0), ('bo', 1)]], ('first', [('last', [('of', 'ada', 0), ('of', 'bo', 1)]), ('of', 'ada', 2)]), True]
idle = Rule(("first", [("of", "ada", 0), ("last", [("of", "ada", 1), ("of", "bo", 0)])]))
[rows(idle), matters(idle), slack(idle), len(parts(lean(idle)))]
# [[[('ada', 0)]], ['ada'], [((0,), 0, 0), ((1, 0), 1, None), ((1, 1), None, None)], 1]
'''

BOOKS = '''
from leafwaits.books import Book, after, alike_books, alike_from, flat, hours_behind, now_ring, parting_after, renamed, then, turned_about
from leafwaits.rows import rows
from leafwaits.rules import Rule
ann = Rule(("last", [("of", "bob", 2), ("of", "cy", 0)]))
bob = Rule(("first", [("of", "ann", 1), ("now", "cy", 3)]))
cy = Rule(("of", "cy", 5))
book = Book([("ann", ann), ("bob", bob), ("cy", cy)])
[book.names(), hours_behind(book, {"ann": 0, "bob": 1, "cy": 2}) == {"ann": 3, "bob": 1, "cy": 7}, flat(book).rule("bob").term(), rows(after(book, 2).rule("ann")), rows(turned_about(book).rule("ann"))]
# [['ann', 'bob', 'cy'], True, ('first', [('of', 'ann', 1), ('of', 'cy', 8)]), [[('ann', 3), ('cy', 5)], [('cy', 10)]], [[('bob', -2)], [('cy', 0)]]]
two = Book([("ann", Rule(("of", "bob", 0))), ("bob", Rule(("of", "ann", 0)))])
same = Book([("ann", Rule(("of", "ann", 0))), ("bob", Rule(("of", "bob", 0)))])
[alike_books(book, flat(book)), parting_after(two, same, 2), alike_from(two, same, 2), alike_books(then(two, two), same), renamed(two, {"ann": "bob", "bob": "ann"}) == two, now_ring([("ann", Rule(("now", "bob", 1))), ("bob", Rule(("now", "ann", -1)))])]
# [True, None, None, True, True, ['ann', 'bob']]
'''

ROUNDS = '''
from leafwaits.books import Book
from leafwaits.rounds import first_round, hours_after, meeting, run
from leafwaits.rules import Rule
ann = Rule(("last", [("of", "ann", 2), ("of", "bob", 0)]))
bob = Rule(("first", [("of", "ann", 1), ("of", "cy", 3)]))
cy = Rule(("of", "ann", 0))
book, nought = Book([("ann", ann), ("bob", bob), ("cy", cy)]), {"ann": 0, "bob": 0, "cy": 0}
[run(book, nought, 3)[1:] == [{"ann": 2, "bob": 1, "cy": 0}, {"ann": 4, "bob": 3, "cy": 2}, {"ann": 6, "bob": 5, "cy": 4}], len(run(book, nought, 3)), hours_after(book, nought, 3) == run(book, nought, 3)[3]]
# [True, 4, True]
[first_round(book, nought, "cy", 3, 9), first_round(book, nought, "cy", 100, 9), first_round(book, nought, "ann", -5, 0), meeting(book, nought, {"ann": 5, "bob": 9, "cy": 5}, 9), meeting(book, nought, {"ann": 5, "bob": 9, "cy": 5}, 2)]
# [3, None, 0, (3, 7), None]
'''

LATE_BOOK = '''
from leafwaits.books import Book, after
from leafwaits.latebook import harmless, is_late_rule, late_after, late_book, late_rule, over_told, parting_lates
from leafwaits.latebook import same_lates, whole_names
from leafwaits.rows import rows
from leafwaits.rules import Rule, told
last = Rule(("last", [("of", "a", 3), ("of", "b", 0)]))
first = Rule(("first", [("of", "a", 3), ("of", "b", 0)]))
[rows(late_rule(last)), rows(late_rule(first)), same_lates(last, first), parting_lates(last, first), is_late_rule(last)]
# [[[('a', 0), ('b', 0)]], [[('a', 0), ('b', 0)]], True, None, False]
spare = Rule(("first", [("last", [("of", "a", 0), ("of", "b", 0)]), ("of", "a", 2)]))
[rows(late_rule(spare)), is_late_rule(spare), [told(late_rule(spare), {"a": 0, "b": late}) for late in [1, 2, 9]], whole_names(spare), harmless(spare, 1)]
# [[[('a', 0), ('b', 0)], [('a', 2)]], True, [1, 2, 2], ['a'], [[('a', 1), ('b', 1)], [('a', -1)]]]
book = Book([("a", Rule(("of", "a", 1))), ("b", spare)])
[rows(late_after(book, 2).rule("b")), rows(after(late_book(book), 2).rule("b")), over_told(book, 2) == {"a": 0, "b": 1}]
# [[[('a', 0), ('b', 0)], [('a', 1)]], [[('a', 0), ('b', 0)], [('a', 2)]], True]
'''

LATE = '''
from leafwaits.books import Book
from leafwaits.late import can_ever, held_late, is_can_ever, late_at, late_hours, late_stair, least_late, most_late, reached, stopping
from leafwaits.rules import Rule
ways = [("last", [("of", "bob", 0), ("of", "cat", 0)]), ("last", [("of", "bob", -3), ("of", "cat", 5)]), ("of", "cat", 7)]
book = Book([("ann", Rule(("first", ways))), ("bob", Rule(("of", "bob", 1))), ("cat", Rule(("of", "cat", 1)))])
[most_late(book, {"bob": 4}, "ann", 1), most_late(book, {"bob": 6}, "ann", 1), most_late(book, {"bob": 9}, "ann", 1), most_late(book, {"bob": 30}, "ann", 2)]
# [4, 5, 6, 7]
[least_late(book, {"bob": 9}, "ann", 1), least_late(book, {"bob": -2}, "ann", 1), most_late(book, {"bob": -2}, "ann", 1), least_late(book, {"bob": 9}, "bob", 2)]
# [0, -2, 0, 9]
[late_at(book, {"bob": 9}, late_hours(book, {"bob": 9}, "ann", 1, 6), 1)["ann"], late_hours(book, {"bob": 9}, "ann", 1, 7), late_at(book, {"bob": 9}, {"ann": 0, "bob": 0, "cat": 0}, 1) == {"ann": 6, "bob": 9, "cat": 0}]
# [6, None, True]
[late_stair(book, "bob", "ann", 1).corners, late_stair(book, "bob", "ann", 1).end(), late_stair(book, "cat", "ann", 1).corners, late_stair(book, "cat", "bob", 1).end()]
# [[0, 5, 8, 10], 7, [0], 0]
last, first = Rule(("last", [("of", "j", 0), ("of", "k", 0)])), Rule(("first", [("of", "a", 0), ("of", "b", 0)]))
chain = Book([("a", last), ("b", Rule(("of", "k", 0))), ("i", first), ("j", Rule(("of", "j", 0))), ("k", Rule(("of", "k", 0)))])
[reached(chain, "j", 1), reached(chain, "j", 2), reached(chain, "k", 2), most_late(chain, {"j": 3}, "i", 2)]
# [['a', 'j'], ['a', 'j'], ['a', 'b', 'i', 'k'], 0]
[held_late(chain, {"j": 3}, "a", 2, ["j"]), held_late(chain, {"j": 3}, "a", 2, ["k"]), stopping(chain, "j", "a", 2), stopping(chain, "j", "i", 2), stopping(chain, "j", "j", 1), stopping(chain, "k", "i", 2)]
# [0, 3, [['j']], [[]], [], [['b']]]
[is_can_ever(chain, "j", "i", can_ever(chain, "j", "i")), can_ever(chain, "i", "j"), can_ever(chain, "j", "k"), is_can_ever(chain, "j", "i", (chain, {"a": 0, "b": 0, "i": 0, "j": 0, "k": 0}, 2))]
# [True, None, None, False]
'''

STAIRS = '''
from leafwaits.stairs import Stair, first_of, first_unlike, last_of, put_behind, rank_of, widest_stair
one, two = Stair(0, [0, 5, 8, 10]), Stair(2, [4])
[one.value(3), one.value(7), one.value(9), one.value(99), one.end(), two.end(), one.undone(5), one.undone(7), one.undone(-1), two.undone(2)]
# [3, 5, 6, 7, 7, None, 8, None, -1, 4]
[first_of([one, two]) == Stair(0, [0, 2, 4, 7, 8, 10]), last_of([one, two]).begin, last_of([one, two]).corners, put_behind(two, one) == Stair(2, [4, 7, 10, 12])]
# [True, 2, [2, 5, 7], True]
[rank_of(1, [one, two]) == first_of([one, two]), first_unlike(one, two), widest_stair(one, two), widest_stair(two, one), one.shifted(-3).begin, Stair(4, []).value(10 ** 25)]
# [True, 0, 2, None, -3, 4]
'''

RUNS = '''
from leafwaits.books import Book
from leafwaits.rules import Rule
from leafwaits.runs import carried, deciding, delayers, earlier_hours, felt, hasteners, holders, later_hours, leeway, open_names, pacers, spare
hall = Book([("ann", Rule(("of", "bea", 1))), ("bea", Rule(("first", [("of", "ann", 2), ("of", "cal", 0)]))), ("cal", Rule(("last", [("of", "cal", 3), ("of", "bea", 1)])))])
begin = {"ann": 0, "bea": 0, "cal": 4}
late = carried(hall, begin, ["ann"], 2)
[[late[0]["ann"].value(5), late[1]["bea"].value(0), late[1]["bea"].value(1), late[1]["bea"].value(9), late[2]["ann"].value(9), late[2]["cal"].value(9)], [spare(hall, begin, ["ann"], "bea", 1, limit) for limit in [1, 3, 4]]]
# [[5, 2, 3, 4, 5, 10], [-1, 1, None]]
felt(hall, begin, ["ann"], 5, 2) == [{"ann": 5}, {"bea": 2}, {"ann": 2}]
# True
rule, hours = Rule(("first", [("of", "ann", 3), ("last", [("of", "bea", 1), ("of", "cal", 2)])])), {"ann": 4, "bea": 2, "cal": 5}
[holders(rule, hours), hasteners(rule, hours), pacers(rule, hours), delayers(rule, hours)]
# [[['ann', 'cal']], [['ann'], ['cal']], [['ann'], ['bea', 'cal']], [['ann', 'bea'], ['ann', 'cal']]]
[leeway(rule, hours, "bea"), leeway(rule, hours, "cal"), deciding(rule, hours), open_names(rule, hours), earlier_hours(rule, hours, ["cal", "ann"]), later_hours(rule, hours, ["ann"])]
# [(None, None), (0, None), ['ann', 'cal'], [], None, None]
'''

WINDOWS = '''
from leafwaits.books import Book
from leafwaits.rules import Rule
from leafwaits.windows import begins, boxes, common_room, ends, first_broken, keeps, room, same_windows, some_hours, tightest, why_none, widening
sooner = Rule(("first", [("of", "ann", 0), ("of", "ben", 0)]))
duo = Book([("ann", sooner), ("ben", Rule(("last", [("of", "ann", 0), ("of", "ben", 1)])))])
wish = {(1, "ann"): (None, 5), (1, "ben"): (3, 8)}
[keeps(duo, wish, {"ann": 6, "ben": 0}), first_broken(duo, wish, {"ann": 6, "ben": 6}), first_broken(duo, wish, {"ann": 2, "ben": 1})]
# [True, (1, 'ann'), (1, 'ben')]
[ends(duo, wish) == [{"ann": 5, "ben": 7}, {"ann": 8, "ben": 5}], begins(duo, wish) == [{"ann": None, "ben": 2}, {"ann": 3, "ben": None}], len(boxes(duo, wish))]
# [True, True, 4]
[room(duo, wish, {"ann": 6, "ben": 0}, "ann"), room(duo, wish, {"ann": 6, "ben": 0}, "ben"), common_room(duo, wish, {"ann": 6, "ben": 0}), widening(duo, wish)]
# [(3, 8), (None, 5), (-3, 2), -2]
[tightest(duo, wish) == wish, same_windows(duo, wish, {(0, "ben"): (None, 7), (1, "ann"): (None, 5), (1, "ben"): (3, 8)}), some_hours(duo, {(0, "ann"): (9, None), (1, "ann"): (None, 5), (0, "ben"): (7, None)})]
# [True, None, None]
hard = {(0, "ann"): (9, None), (1, "ann"): (None, 5), (0, "ben"): (7, None)}
[why_none(duo, hard) == [({"ann": 5, "ben": None}, 0, "ann"), ({"ann": None, "ben": 5}, 0, "ben")], widening(duo, hard), widening(duo, {(1, "ann"): (None, 5)})]
# [True, 1, None]
'''

SIGHTS = '''
from leafwaits.seen import Sights, after_rounds, clash, earliest_at, earliest_columns, fits, last_latest, last_moments, latest_at, latest_rows
from leafwaits.seen import lots_seen, lots_stop, lots_wrong, moments, must_see, needless, rule_with, telling_hours, watched
from leafwaits.books import Book
from leafwaits.rules import Rule
seen = Sights(["a", "b"], 3, [({"a": 0, "b": 0}, 2, 2), ({"a": 0, "b": 5}, 3, 3)])
[fits(seen), must_see(seen), lots_stop(seen), latest_at(seen, {"a": 0, "b": 5}), earliest_at(seen, {"a": 4, "b": 0})]
# [True, ['a', 'b'], [['a'], ['b']], 3, 2]
[latest_rows(seen), earliest_columns(seen)]
# [[[('a', 2), ('b', 2)], [('a', 3)]], [[('a', 2), ('b', 2)], [('a', 3), ('b', 0)]]]
[moments(seen, {"a": 0, "b": 1}), moments(seen, {"a": 5, "b": 0}), rule_with(seen, {"a": 5, "b": 0}, 4)]
# [[(2, 3)], [(2, 3), (5, 7)], None]
wrong = seen.with_row(({"a": 1, "b": 9}, 2, 2))
[fits(wrong), clash(wrong) in ((2, 0), (2, 1)), lots_wrong(wrong), needless(seen)]
# [False, True, [[0, 1], [2]], []]
open_one = Sights(["a", "b"], 1, [])
[lots_seen(open_one), lots_stop(open_one), after_rounds({"a": open_one, "b": open_one}, {"a": 0, "b": 3}, 2)]
# [[['a'], ['b']], [['a', 'b']], [('a', 0, 5), ('b', 0, 5)]]
one = Sights(["a", "b"], 5, [({"a": 0, "b": 0}, 3, 3)])
[last_latest(one), last_moments(one, {"a": 0, "b": 4}), last_moments(one, {"a": 9, "b": 0})]
# [[('a', 3), ('b', 3)], [(3, 7)], [(3, 3), (9, 12)]]
any_wait = Sights(["a"], None, [({"a": 5}, 3, 3)])
[latest_rows(any_wait), moments(any_wait, {"a": 0}), moments(Sights(["a"], None, []), {"a": 0})]
# [[[('a', -2)]], [(-2, -2)], [(None, None)]]
watched(Book([("a", Rule(("of", "a", 2)))]), {"a": 1}, 2, None) == {"a": Sights(["a"], None, [({"a": 1}, 3, 3), ({"a": 3}, 5, 5)])}
# True
'''

LEADS = '''
from leafwaits.books import Book
from leafwaits.differences import hours_of, is_why_at_most, spread, why_at_most
from leafwaits.leads import front, front_hours, lead, lead_hours, rear, sure_order
from leafwaits.rounds import hours_after
from leafwaits.rules import Rule, told
ann = Rule(("last", [("of", "ann", 2), ("of", "bob", 0)]))
bob, cy = Rule(("first", [("of", "ann", 1), ("of", "cy", 3)])), Rule(("of", "ann", 0))
[spread(ann, bob), spread(bob, cy), why_at_most(bob, ann, -1), why_at_most(bob, ann, -2), is_why_at_most(bob, ann, 0, [0]), is_why_at_most(bob, ann, 0, [1])]
# [(1, None), (None, 1), [0], None, True, False]
there = hours_of(ann, bob, 7)
[told(ann, there) - told(bob, there), hours_of(ann, bob, 0), sorted(there)]
# [7, None, ['ann', 'bob', 'cy']]
trio = Book([("ann", ann), ("bob", bob), ("cy", cy)])
[lead(trio, "bob", "ann"), lead(trio, "cy", "ann"), lead(trio, "bob", "cy"), lead(trio, "cy", "bob"), front(trio, "cy"), front(trio, "ann"), front(trio, "bob"), rear(trio, "cy"), sure_order(trio)]
# [-1, -2, 1, None, 1, -2, None, -2, [('bob', 'ann'), ('cy', 'ann')]]
kim, jo = Rule(("last", [("of", "jo", 0), ("of", "moe", 0)])), Rule(("first", [("of", "kim", 0), ("of", "moe", 0)]))
three = Book([("jo", jo), ("kim", kim), ("moe", Rule(("of", "moe", 0)))])
early = hours_after(trio, front_hours(trio, "cy", 1), 1)
[lead(three, "kim", "moe"), lead(three, "kim", "moe", 2), lead_hours(three, "kim", "moe", 1, 2), early["cy"] + 1 == min([early["ann"], early["bob"]])]
# [None, 0, None, True]
'''

HALLS = '''
from leafwaits.books import Book
from leafwaits.live import Hall, alike_halls, check_parting_changes, parting_changes, replayed, same_runs
from leafwaits.rules import Rule
rising = Rule(("of", "ann", 2))
book = Book([("ann", rising), ("bob", Rule(("last", [("of", "ann", 1), ("of", "bob", 1)])))])
hall = Hall(book, {"ann": 0, "bob": 5})
first_calls = [hall.round(2) == {"ann": 4, "bob": 7}, hall.reach("ann", 1), hall.reach("bob", 9), hall.spare("ann", "bob", 1), hall.spare("bob", "ann", 9), hall.rounds()]
first_calls
# [True, ['ann', 'bob'], ['bob'], 3, None, 2]
second_calls = [hall.late("ann", 4), hall.round() == {"ann": 10, "bob": 9}, hall.log(), hall.undo(), hall.undo(), hall.hours() == {"ann": 4, "bob": 7}, hall.redo(), hall.hours()["ann"]]
second_calls
# [None, True, [('round', 2), ('late', 'ann', 4), ('round', 1)], None, None, True, None, 8]
[hall.attempt(lambda same: same.round(300)["ann"]), hall.rounds(), replayed(book, {"ann": 0, "bob": 5}, hall.log()).hours() == hall.hours()]
# [608, 2, True]
soon, now = Rule(("of", "ann", 1)), Rule(("now", "ann", 0))
near, far = Hall(Book([("ann", soon), ("bob", now)]), {"ann": 0, "bob": 0}), Hall(Book([("ann", soon), ("bob", soon)]), {"ann": 0, "bob": 0})
[same_runs(near, far), alike_halls(near, far), check_parting_changes(near, far, [("put", "ann", rising), ("round", 1)]), check_parting_changes(near, far, [("round", 1)]), check_parting_changes(near, far, parting_changes(near, far))]
# [True, False, True, False, True]
second = Rule(("rank", 2, [("of", "ann", 1), ("of", "ann", 1), ("of", "tom", 5)]))
three = [Hall(Book([("ann", soon), ("bob", rule), ("tom", soon)]), {"ann": 0, "bob": 0, "tom": 9}) for rule in [second, soon]]
[same_runs(three[0], three[1]), check_parting_changes(three[0], three[1], [("leave", "tom")]), parting_changes(three[0], three[0]), three[1].leave("tom"), three[1].book().names(), len(three[1])]
# [True, True, None, None, ['ann', 'bob'], 2]
'''

SCRIPTS = '''
from leafwaits.scripts import parting_begin, play, read_script, refused, said_text, same_end, script_text, trimmed
from leafwaits.live import Hall
pair = Book([("ann", Rule(("of", "ann", 2))), ("bob", Rule(("last", [("of", "ann", 1), ("of", "bob", 1)])))])
script = [("late", "bob", 3), ("round", 1), ("put", "ann", Rule(("now", "bob", 0))), ("leave", "bob"), ("undo",), ("hours",)]
[refused(pair, script), read_script(script_text(script)) == script, said_text(play(Hall(pair, {"ann": 0, "bob": 0}), script)).split(chr(10))]
# [[3], True, ['done', 'passed ann 2, bob 4', 'done', 'refused StillNeeded', 'done', 'hours ann 2, bob 4']]
[same_end(pair, [("late", "ann", 1), ("round", 1)], [("round", 1), ("late", "ann", 1)]), same_end(pair, [("round", 1), ("round", 1)], [("round", 2)]), parting_begin(pair, [("round", 2)], [("round", 1), ("round", 1), ("hours",)])]
# [False, True, None]
script_text([("put", "ann", Rule(("now", "bob", 0))), ("join", "cy", Rule(("of", "ann", 1)), -5), ("try", [("late", "ann", 2)])]).split(chr(10))
# ['put ann: now bob 0', 'join cy -5: ann 1', 'try', '  late ann 2', 'end']
trimmed(pair, [("late", "bob", 0), ("hours",), ("round", 1), ("undo",), ("late", "ann", 2)])
# [('undo',), ('late', 'ann', 2)]
'''

TEXTS = r'''
from leafwaits.books import Book
from leafwaits.rules import Rule
from leafwaits.seen import Sights
from leafwaits.stairs import Stair
from leafwaits.texts import book_text, hours_text, read_book, read_hours, read_rule, read_sights, read_stair, read_windows, rows_text, rule_text, run_text, sights_text, stair_text, windows_text
early = Rule(("first", [("of", "ann", 3), ("last", [("of", "bea", 1), ("now", "cal", -2)])]))
trio = Book([("cal", Rule(("of", "cal", 0))), ("ann", early), ("bea", Rule(("rank", 2, [("of", "ann", 0), ("of", "bea", 4)])))])
[rule_text(early), rule_text(Rule(("rank", 1, [("now", "now", 0), ("of", "now", -3), ("of", "rank", 2)]))), book_text(trio).split(chr(10))]
# ['first(ann 3, last(bea 1, now cal -2))', 'rank 1(now now 0, now -3, rank 2)', ['ann: first(ann 3, last(bea 1, now cal -2))', 'bea: rank 2(ann 0, bea 4)', 'cal: cal 0']]
[hours_text({"cal": 0, "ann": -4}), hours_text({}), run_text([{"ann": 1}, {"ann": 3}]).split(chr(10)), rows_text([[("ann", 3)], [("bea", 1), ("cal", 2)]]).split(chr(10)), windows_text({(1, "bea"): (None, 4), (0, "ann"): (-2, None)}).split(chr(10))]
# ['ann -4, cal 0', 'none', ['ann 1', 'ann 3'], ['ann 3', 'bea 1, cal 2'], ['-2 to: 0 ann', 'to 4: 1 bea']]
[stair_text(Stair(2, [0, 2])), stair_text(Stair(7, [])), read_stair("2: 0, 2") == Stair(2, [0, 2]), read_book(book_text(trio)) == trio, read_rule("first(ann 3, last(bea 1, now cal -2))") == early, read_hours("ann -4, cal 0") == {"ann": -4, "cal": 0}, read_windows("to 4: 1 bea") == {(1, "bea"): (None, 4)}]
# ['2: 0, 2', '7', True, True, True, True, True]
watcher = read_sights("most 5: ann, bea\n3 to 4: ann 0, bea -2\nto: ann 1, bea 1")
[watcher.names(), watcher.most(), len(watcher), sights_text(watcher.without(1)).split(chr(10)), sights_text(Sights(["ann"], None, []))]
# [['ann', 'bea'], 5, 2, ['most 5: ann, bea', '3 to 4: ann 0, bea -2'], 'any: ann']
'''


def run_example(test, text):
    """Runs the lines of an example; what a line tells is told again by the comment below it."""
    scope = {}
    lines = text.strip().split("\n")
    checked = 0
    for at, line in enumerate(lines):
        if line.startswith("# "):
            test.assertEqual(repr(eval(lines[at - 1], scope)), line[2:])
            checked += 1
        elif at + 1 == len(lines) or not lines[at + 1].startswith("# "):
            exec(line, scope)
    test.assertGreater(checked, 0)


class ExamplesTest(unittest.TestCase):
    def test_section_3(self):
        run_example(self, RULES)

    def test_section_4(self):
        run_example(self, ROWS)

    def test_section_5(self):
        run_example(self, BOOKS)

    def test_section_6(self):
        run_example(self, ROUNDS)

    def test_section_7(self):
        run_example(self, LATE_BOOK)

    def test_section_8(self):
        run_example(self, LATE)

    def test_section_9(self):
        run_example(self, STAIRS)

    def test_section_10(self):
        run_example(self, RUNS)

    def test_section_11(self):
        run_example(self, WINDOWS)

    def test_section_12(self):
        run_example(self, SIGHTS)

    def test_section_13(self):
        run_example(self, LEADS)

    def test_section_14(self):
        run_example(self, HALLS)

    def test_section_15(self):
        # The examples go on from those ahead of them.
        run_example(self, HALLS + SCRIPTS)

    def test_section_16(self):
        run_example(self, TEXTS)


if __name__ == "__main__":
    unittest.main()
