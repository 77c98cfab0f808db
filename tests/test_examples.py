"""The examples of sections 3, 4 and 5 of the document, as they stand there."""

import unittest

RULES = '''
from leafwaits.rules import Rule, left_out, mirrored, named, parts, put_in, shifted, told, waited
late = Rule(("last", [("of", "ada", 3), ("first", [("of", "bo", 0), ("now", "cy", 1)])]))
hours, now = {"ada": 5, "bo": 20}, {"cy": 9}
[told(late, hours, now), named(late), told(shifted(late, -2), hours, now)]
# [10, (['ada', 'bo'], ['cy']), 8]
mid = Rule(("rank", 2, [("of", "ada", 0), ("of", "bo", 0), ("of", "ada", 4)]))
[told(mid, {"ada": 5, "bo": 7}), mirrored(mid).term(), parts(mid)[2]]
# [7, ('rank', 2, [('of', 'ada', 0), ('of', 'bo', 0), ('of', 'ada', -4)]), ((2,), ('of', 'ada', 4))]
put = put_in(mid, {"bo": Rule(("first", [("of", "ada", 1), ("of", "cy", 2)]))})
[put.term()[2][1], told(put, {"ada": 5, "cy": 0})]
# [('first', [('of', 'ada', 1), ('of', 'cy', 2)]), 5]
[waited(mid, (1,), 9).term()[2][1], left_out(mid, [(0,)]).term(), left_out(late, [(1, 0), (1, 1)]).term()]
# [('of', 'bo', 9), ('rank', 2, [('of', 'bo', 0), ('of', 'ada', 4)]), ('last', [('of', 'ada', 3)])]
'''

ROWS = '''
from leafwaits.rules import Rule, parts
from leafwaits.rows import alike, alone, columns, lean, matters, never_behind, of_rows, parting, reasons, rows, slack, telling
mid = Rule(("rank", 2, [("of", "ada", 0), ("of", "bo", 0), ("of", "cy", 0)]))
top = Rule(("last", [("first", [("of", "ada", 0), ("of", "bo", 0)]), ("of", "cy", 0)]))
[rows(top), columns(top), len(rows(mid)), never_behind(mid, top), never_behind(top, mid)]
# [[[('ada', 0), ('cy', 0)], [('bo', 0), ('cy', 0)]], [[('ada', 0), ('bo', 0)], [('cy', 0)]], 3, True, False]
[reasons(mid, top)[1][0], reasons(top, mid)[0], alike(of_rows(rows(mid)), mid), parting(top, top)]
# [([('ada', 0), ('cy', 0)], [('ada', 0), ('cy', 0)]), 'behind', True, None]
soon = Rule(("first", [("last", [("of", "bo", 1), ("of", "ada", 0)]), ("of", "ada", 2)]))
[telling(soon, {"ada": 5, "bo": 3}), of_rows(rows(soon)).term(), alone(soon, [("ada", 2)])["bo"] > alone(soon, [("ada", 2)])["ada"] + 1]
# [[[('ada', 0), ('bo', 1)]], ('first', [('last', [('of', 'ada', 0), ('of', 'bo', 1)]), ('of', 'ada', 2)]), True]
idle = Rule(("first", [("of", "ada", 0), ("last", [("of", "ada", 1), ("of", "bo", 0)])]))
[rows(idle), matters(idle), slack(idle), len(parts(lean(idle)))]
# [[[('ada', 0)]], ['ada'], [((0,), 0, 0), ((1, 0), 1, None), ((1, 1), None, None)], 1]
'''

BOOKS = '''
from leafwaits.books import Book, after, alike_books, alike_from, flat, hours_behind, now_ring, parting_after, renamed, then, turned_about
from leafwaits.rows import rows
from leafwaits.rules import Rule
ann = Rule(("last", [("of", "bob", 2), ("of", "cy", 0)]))
bob = Rule(("first", [("of", "ann", 1), ("now", "cy", 3)]))
cy = Rule(("of", "cy", 5))
book = Book([("ann", ann), ("bob", bob), ("cy", cy)])
[book.names(), hours_behind(book, {"ann": 0, "bob": 1, "cy": 2}) == {"ann": 3, "bob": 1, "cy": 7}, flat(book).rule("bob").term(), rows(after(book, 2).rule("ann")), rows(turned_about(book).rule("ann"))]
# [['ann', 'bob', 'cy'], True, ('first', [('of', 'ann', 1), ('of', 'cy', 8)]), [[('ann', 3), ('cy', 5)], [('cy', 10)]], [[('bob', -2)], [('cy', 0)]]]
two = Book([("ann", Rule(("of", "bob", 0))), ("bob", Rule(("of", "ann", 0)))])
same = Book([("ann", Rule(("of", "ann", 0))), ("bob", Rule(("of", "bob", 0)))])
[alike_books(book, flat(book)), parting_after(two, same, 2), alike_from(two, same, 2), alike_books(then(two, two), same), renamed(two, {"ann": "bob", "bob": "ann"}) == two, now_ring([("ann", Rule(("now", "bob", 1))), ("bob", Rule(("now", "ann", -1)))])]
# [True, None, None, True, True, ['ann', 'bob']]
'''


def run_example(test, text):
    """Runs the lines of an example; what a line tells is told again by the comment below it."""
    scope = {}
    lines = text.strip().split("\n")
    checked = 0
    for at, line in enumerate(lines):
        if line.startswith("# "):
            test.assertEqual(repr(eval(lines[at - 1], scope)), line[2:])
            checked += 1
        elif at + 1 == len(lines) or not lines[at + 1].startswith("# "):
            exec(line, scope)
    test.assertGreater(checked, 0)


class ExamplesTest(unittest.TestCase):
    def test_section_3(self):
        run_example(self, RULES)

    def test_section_4(self):
        run_example(self, ROWS)

    def test_section_5(self):
        run_example(self, BOOKS)


if __name__ == "__main__":
    unittest.main()
