"""The examples of sections 3 to 9 of the document, as they stand there."""

import unittest

RULES = '''
from leafwaits.rules import Rule, left_out, mirrored, named, parts, put_in, shifted, told, waited
late = Rule(("last", [("of", "ada", 3), ("first", [("of", "bo", 0), ("now", "cy", 1)])]))
hours, now = {"ada": 5, "bo": 20}, {"cy": 9}
[told(late, hours, now), named(late), told(shifted(late, -2), hours, now)]
# [10, (['ada', 'bo'], ['cy']), 8]
mid = Rule(("rank", 2, [("of", "ada", 0), ("of", "bo", 0), ("of", "ada", 4)]))
[told(mid, {"ada": 5, "bo": 7}), mirrored(mid).term(), parts(mid)[2]]
# [7, ('rank', 2, [('of', 'ada', 0), ('of', 'bo', 0), ('of', 'ada', -4)]), ((2,), ('of', 'ada', 4))]
put = put_in(mid, {"bo": Rule(("first", [("of", "ada", 1), ("of", "cy", 2)]))})
[put.term()[2][1], told(put, {"ada": 5, "cy": 0})]
# [('first', [('of', 'ada', 1), ('of', 'cy', 2)]), 5]
[waited(mid, (1,), 9).term()[2][1], left_out(mid, [(0,)]).term(), left_out(late, [(1, 0), (1, 1)]).term()]
# [('of', 'bo', 9), ('rank', 2, [('of', 'bo', 0), ('of', 'ada', 4)]), ('last', [('of', 'ada', 3)])]
'''

ROWS = '''
from leafwaits.rules import Rule, parts
from leafwaits.rows import alike, alone, columns, lean, matters, never_behind, of_rows, parting, reasons, rows, slack, telling
mid = Rule(("rank", 2, [("of", "ada", 0), ("of", "bo", 0), ("of", "cy", 0)]))
top = Rule(("last", [("first", [("of", "ada", 0), ("of", "bo", 0)]), ("of", "cy", 0)]))
[rows(top), columns(top), len(rows(mid)), never_behind(mid, top), never_behind(top, mid)]
# [[[('ada', 0), ('cy', 0)], [('bo', 0), ('cy', 0)]], [[('ada', 0), ('bo', 0)], [('cy', 0)]], 3, True, False]
[reasons(mid, top)[1][0], reasons(top, mid)[0], alike(of_rows(rows(mid)), mid), parting(top, top)]
# [([('ada', 0), ('cy', 0)], [('ada', 0), ('cy', 0)]), 'behind', True, None]
soon = Rule(("first", [("last", [("of", "bo", 1), ("of", "ada", 0)]), ("of", "ada", 2)]))
[telling(soon, {"ada": 5, "bo": 3}), of_rows(rows(soon)).term(), alone(soon, [("ada", 2)])["bo"] > alone(soon, [("ada", 2)])["ada"] + 1]
# [[[('ada', 0), ('bo', 1)]], ('first', [('last', [('of', 'ada', 0), ('of', 'bo', 1)]), ('of', 'ada', 2)]), True]
idle = Rule(("first", [("of", "ada", 0), ("last", [("of", "ada", 1), ("of", "bo", 0)])]))
[rows(idle), matters(idle), slack(idle), len(parts(lean(idle)))]
# [[[('ada', 0)]], ['ada'], [((0,), 0, 0), ((1, 0), 1, None), ((1, 1), None, None)], 1]
'''

BOOKS = '''
from leafwaits.books import Book, after, alike_books, alike_from, flat, hours_behind, now_ring, parting_after, renamed, then, turned_about
from leafwaits.rows import rows
from leafwaits.rules import Rule
ann = Rule(("last", [("of", "bob", 2), ("of", "cy", 0)]))
bob = Rule(("first", [("of", "ann", 1), ("now", "cy", 3)]))
cy = Rule(("of", "cy", 5))
book = Book([("ann", ann), ("bob", bob), ("cy", cy)])
[book.names(), hours_behind(book, {"ann": 0, "bob": 1, "cy": 2}) == {"ann": 3, "bob": 1, "cy": 7}, flat(book).rule("bob").term(), rows(after(book, 2).rule("ann")), rows(turned_about(book).rule("ann"))]
# [['ann', 'bob', 'cy'], True, ('first', [('of', 'ann', 1), ('of', 'cy', 8)]), [[('ann', 3), ('cy', 5)], [('cy', 10)]], [[('bob', -2)], [('cy', 0)]]]
two = Book([("ann", Rule(("of", "bob", 0))), ("bob", Rule(("of", "ann", 0)))])
same = Book([("ann", Rule(("of", "ann", 0))), ("bob", Rule(("of", "bob", 0)))])
[alike_books(book, flat(book)), parting_after(two, same, 2), alike_from(two, same, 2), alike_books(then(two, two), same), renamed(two, {"ann": "bob", "bob": "ann"}) == two, now_ring([("ann", Rule(("now", "bob", 1))), ("bob", Rule(("now", "ann", -1)))])]
# [True, None, None, True, True, ['ann', 'bob']]
'''

ROUNDS = '''
from leafwaits.books import Book
from leafwaits.rounds import first_round, hours_after, meeting, run
from leafwaits.rules import Rule
ann = Rule(("last", [("of", "ann", 2), ("of", "bob", 0)]))
bob = Rule(("first", [("of", "ann", 1), ("of", "cy", 3)]))
cy = Rule(("of", "ann", 0))
book, nought = Book([("ann", ann), ("bob", bob), ("cy", cy)]), {"ann": 0, "bob": 0, "cy": 0}
[run(book, nought, 3)[1:] == [{"ann": 2, "bob": 1, "cy": 0}, {"ann": 4, "bob": 3, "cy": 2}, {"ann": 6, "bob": 5, "cy": 4}], len(run(book, nought, 3)), hours_after(book, nought, 3) == run(book, nought, 3)[3]]
# [True, 4, True]
[first_round(book, nought, "cy", 3, 9), first_round(book, nought, "cy", 100, 9), first_round(book, nought, "ann", -5, 0), meeting(book, nought, {"ann": 5, "bob": 9, "cy": 5}, 9), meeting(book, nought, {"ann": 5, "bob": 9, "cy": 5}, 2)]
# [3, None, 0, (3, 7), None]
'''

LATE_BOOK = '''
from leafwaits.books import Book, after
from leafwaits.latebook import harmless, is_late_rule, late_after, late_book, late_rule, over_told, parting_lates
from leafwaits.latebook import same_lates, whole_names
from leafwaits.rows import rows
from leafwaits.rules import Rule, told
last = Rule(("last", [("of", "a", 3), ("of", "b", 0)]))
first = Rule(("first", [("of", "a", 3), ("of", "b", 0)]))
[rows(late_rule(last)), rows(late_rule(first)), same_lates(last, first), parting_lates(last, first), is_late_rule(last)]
# [[[('a', 0), ('b', 0)]], [[('a', 0), ('b', 0)]], True, None, False]
spare = Rule(("first", [("last", [("of", "a", 0), ("of", "b", 0)]), ("of", "a", 2)]))
[rows(late_rule(spare)), is_late_rule(spare), [told(late_rule(spare), {"a": 0, "b": late}) for late in [1, 2, 9]], whole_names(spare), harmless(spare, 1)]
# [[[('a', 0), ('b', 0)], [('a', 2)]], True, [1, 2, 2], ['a'], [[('a', 1), ('b', 1)], [('a', -1)]]]
book = Book([("a", Rule(("of", "a", 1))), ("b", spare)])
[rows(late_after(book, 2).rule("b")), rows(after(late_book(book), 2).rule("b")), over_told(book, 2) == {"a": 0, "b": 1}]
# [[[('a', 0), ('b', 0)], [('a', 1)]], [[('a', 0), ('b', 0)], [('a', 2)]], True]
'''

LATE = '''
from leafwaits.books import Book
from leafwaits.late import can_ever, held_late, is_can_ever, late_at, late_hours, late_stair, least_late, most_late, reached, stopping
from leafwaits.rules import Rule
ways = [("last", [("of", "bob", 0), ("of", "cat", 0)]), ("last", [("of", "bob", -3), ("of", "cat", 5)]), ("of", "cat", 7)]
book = Book([("ann", Rule(("first", ways))), ("bob", Rule(("of", "bob", 1))), ("cat", Rule(("of", "cat", 1)))])
[most_late(book, {"bob": 4}, "ann", 1), most_late(book, {"bob": 6}, "ann", 1), most_late(book, {"bob": 9}, "ann", 1), most_late(book, {"bob": 30}, "ann", 2)]
# [4, 5, 6, 7]
[least_late(book, {"bob": 9}, "ann", 1), least_late(book, {"bob": -2}, "ann", 1), most_late(book, {"bob": -2}, "ann", 1), least_late(book, {"bob": 9}, "bob", 2)]
# [0, -2, 0, 9]
[late_at(book, {"bob": 9}, late_hours(book, {"bob": 9}, "ann", 1, 6), 1)["ann"], late_hours(book, {"bob": 9}, "ann", 1, 7), late_at(book, {"bob": 9}, {"ann": 0, "bob": 0, "cat": 0}, 1) == {"ann": 6, "bob": 9, "cat": 0}]
# [6, None, True]
[late_stair(book, "bob", "ann", 1).corners, late_stair(book, "bob", "ann", 1).end(), late_stair(book, "cat", "ann", 1).corners, late_stair(book, "cat", "bob", 1).end()]
# [[0, 5, 8, 10], 7, [0], 0]
last, first = Rule(("last", [("of", "j", 0), ("of", "k", 0)])), Rule(("first", [("of", "a", 0), ("of", "b", 0)]))
chain = Book([("a", last), ("b", Rule(("of", "k", 0))), ("i", first), ("j", Rule(("of", "j", 0))), ("k", Rule(("of", "k", 0)))])
[reached(chain, "j", 1), reached(chain, "j", 2), reached(chain, "k", 2), most_late(chain, {"j": 3}, "i", 2)]
# [['a', 'j'], ['a', 'j'], ['a', 'b', 'i', 'k'], 0]
[held_late(chain, {"j": 3}, "a", 2, ["j"]), held_late(chain, {"j": 3}, "a", 2, ["k"]), stopping(chain, "j", "a", 2), stopping(chain, "j", "i", 2), stopping(chain, "j", "j", 1), stopping(chain, "k", "i", 2)]
# [0, 3, [['j']], [[]], [], [['b']]]
[is_can_ever(chain, "j", "i", can_ever(chain, "j", "i")), can_ever(chain, "i", "j"), can_ever(chain, "j", "k"), is_can_ever(chain, "j", "i", (chain, {"a": 0, "b": 0, "i": 0, "j": 0, "k": 0}, 2))]
# [True, None, None, False]
'''

STAIRS = '''
from leafwaits.stairs import Stair, first_of, first_unlike, last_of, put_behind, rank_of, widest_stair
one, two = Stair(0, [0, 5, 8, 10]), Stair(2, [4])
[one.value(3), one.value(7), one.value(9), one.value(99), one.end(), two.end(), one.undone(5), one.undone(7), one.undone(-1), two.undone(2)]
# [3, 5, 6, 7, 7, None, 8, None, -1, 4]
[first_of([one, two]) == Stair(0, [0, 2, 4, 7, 8, 10]), last_of([one, two]).begin, last_of([one, two]).corners, put_behind(two, one) == Stair(2, [4, 7, 10, 12])]
# [True, 2, [2, 5, 7], True]
[rank_of(1, [one, two]) == first_of([one, two]), first_unlike(one, two), widest_stair(one, two), widest_stair(two, one), one.shifted(-3).begin, Stair(4, []).value(10 ** 25)]
# [True, 0, 2, None, -3, 4]
'''


def run_example(test, text):
    """Runs the lines of an example; what a line tells is told again by the comment below it."""
    scope = {}
    lines = text.strip().split("\n")
    checked = 0
    for at, line in enumerate(lines):
        if line.startswith("# "):
            test.assertEqual(repr(eval(lines[at - 1], scope)), line[2:])
            checked += 1
        elif at + 1 == len(lines) or not lines[at + 1].startswith("# "):
            exec(line, scope)
    test.assertGreater(checked, 0)


class ExamplesTest(unittest.TestCase):
    def test_section_3(self):
        run_example(self, RULES)

    def test_section_4(self):
        run_example(self, ROWS)

    def test_section_5(self):
        run_example(self, BOOKS)

    def test_section_6(self):
        run_example(self, ROUNDS)

    def test_section_7(self):
        run_example(self, LATE_BOOK)

    def test_section_8(self):
        run_example(self, LATE)

    def test_section_9(self):
        run_example(self, STAIRS)


if __name__ == "__main__":
    unittest.main()
