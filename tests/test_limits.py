"""Point 3: rules and books of the greatest size are answered soon, whatever the length of the numbers."""

import time
import unittest

from leafwaits.books import Book, after, alike_books, alike_from, check_parting_after, flat, hours_behind, parting_after
from leafwaits.books import then
from leafwaits.differences import hours_of, is_why_at_most, spread, why_at_most
from leafwaits.late import can_ever, held_late, is_can_ever, late_at, late_hours, late_stair, least_late, most_late
from leafwaits.late import reached, stopping
from leafwaits.latebook import harmless, is_late_rule, late_after, late_rule, over_told, parting_lates, same_lates
from leafwaits.latebook import whole_names
from leafwaits.leads import front, front_hours, lead, lead_hours, rear, rear_hours, sure_order
from leafwaits.live import Hall, alike_halls, check_parting_changes, parting_changes, replayed, same_runs
from leafwaits.rounds import first_round, hours_after, meeting, run
from leafwaits.rows import alike, alone, columns, lean, matters, of_columns, of_rows, parting, reasons, rows, slack
from leafwaits.rows import telling
from leafwaits.rules import Rule, mirrored, put_in, told
from leafwaits.runs import carried, check_earlier, check_later, deciding, delayers, earlier_hours, felt, hasteners
from leafwaits.runs import holders, later_hours, leeway, open_names, pacers, spare
from leafwaits.scripts import check_parting_begin, parting_begin, play, read_script, refused, said_text, same_end
from leafwaits.scripts import script_text, trimmed
from leafwaits.seen import Sights, after_rounds, clash, earliest_at, last_latest, last_moments, latest_at, lots_seen
from leafwaits.seen import lots_stop, lots_wrong, moments, must_see, needless, rule_fits, rule_with, same_sights
from leafwaits.seen import still_fit, telling_hours, unlike_rule, watched
from leafwaits.stairs import Stair, first_of, first_unlike, last_of, put_behind, rank_of, widest_stair
from leafwaits.texts import book_text, read_book, read_rows, read_rule, read_run, read_sights, read_stair, read_windows
from leafwaits.texts import rows_text, rule_text, run_text, sights_text, stair_text, windows_text
from leafwaits.windows import boxes, common_room, keeps, room, same_windows, some_hours, tightest, why_none, widening
from support import random_hours, random_rule, seeded

SOON = 20
SIX = ["a", "b", "c", "d", "e", "f"]
LONG_WAIT = 10 ** 12 - 1

# These were found by a search for books with a lot of rows: each scribe hangs on those ahead of it.
FIVE = {
    "a": ("rank", 3, [("of", "a", -39), ("of", "d", 0), ("of", "e", -18), ("of", "b", 83)]),
    "b": ("rank", 2, [("of", "e", 871), ("now", "a", -636), ("of", "a", 873), ("of", "b", 662)]),
    "c": ("rank", 2, [("of", "d", 1), ("of", "c", 2), ("of", "a", 2), ("now", "b", 2)]),
    "d": ("rank", 3, [("now", "c", -3), ("of", "c", -6), ("now", "b", -6), ("now", "a", -5)]),
    "e": ("rank", 2, [("now", "c", -520), ("of", "e", 774), ("of", "d", -125), ("now", "d", -957)]),
}
FIVE_MORE = {
    "a": ("rank", 2, [("of", "e", -35), ("of", "c", 90), ("of", "d", 44), ("of", "b", -66)]),
    "b": ("rank", 3, [("of", "e", 67), ("of", "b", -99), ("of", "d", -14), ("now", "a", 26)]),
    "c": ("rank", 2, [("now", "a", 900), ("of", "c", -361), ("now", "a", 616), ("of", "c", 974)]),
    "d": ("rank", 2, [("of", "a", 319), ("now", "c", -84), ("of", "b", -605), ("now", "b", 105)]),
    "e": ("rank", 3, [("of", "c", 0), ("of", "e", 2), ("now", "d", 2), ("of", "a", -3)]),
}
THREE = {
    "a": ("rank", 3, [("of", "c", 2), ("of", "c", 6), ("of", "c", 4), ("of", "b", 0), ("of", "a", 3), ("of", "a", -1)]),
    "b": ("rank", 5, [("now", "a", 1), ("of", "c", -8), ("of", "a", -7), ("of", "b", -10), ("now", "a", -2),
                      ("of", "c", -1)]),
    "c": ("rank", 3, [("of", "a", 96), ("now", "b", -39), ("now", "a", -67), ("of", "b", 67), ("now", "a", 79),
                      ("of", "b", -99)]),
}
# This one was found by a search for late rules of a lot of rows.
FIVE_LATE = {
    "d": ("first", [("first", [("of", "e", 552), ("of", "a", 612), ("of", "d", 716), ("of", "b", -330)])]),
    "a": ("rank", 3, [("of", "e", -136), ("now", "d", 504), ("of", "d", 709), ("of", "a", -457)]),
    "b": ("rank", 2, [("of", "a", -2), ("of", "c", -9), ("now", "a", 7), ("now", "a", -8)]),
    "c": ("last", [("now", "a", -100), ("now", "b", 28), ("now", "d", -8), ("of", "c", -62)]),
    "e": ("rank", 2, [("of", "e", 29), ("now", "c", 68), ("of", "a", -42), ("of", "d", -84)]),
}


def book_of(terms):
    return Book([(name, Rule(term)) for name, term in terms.items()])


def spread_rows(rng, names, many):
    """Rows of all of some names, of which none is likely to lie within another one."""
    some = []
    for _ in range(many):
        waits = [rng.randint(0, 10 ** 6) for _ in names]
        some.append([(name, wait - sum(waits) // len(names)) for name, wait in zip(names, waits)])
    return some


class LimitsTest(unittest.TestCase):
    def setUp(self):
        self.begin = time.process_time()

    def tearDown(self):
        self.assertLess(time.process_time() - self.begin, SOON)

    def test_rules_of_eight_parts(self):
        rng = seeded(1)
        for number in range(12):
            waits = [rng.randint(-LONG_WAIT, LONG_WAIT) for _ in range(8)]
            rule = Rule(("rank", 4, [("of", SIX[at % 6], wait) for at, wait in enumerate(waits)]))
            if number > 3:
                rule = random_rule(rng, 8, SIX, (), LONG_WAIT)
            hours = random_hours(rng, SIX, 10 ** 29)
            self.assertIn(told(rule, hours), [hours[name] + wait for row in telling(rule, hours) for name, wait in row])
            self.assertTrue(alike(of_columns(columns(rule)), rule))
            self.assertEqual(reasons(rule, rule)[0], "never")
            for row in rows(rule):
                alone(rule, row)
            slack(rule)
            self.assertTrue(alike(lean(rule), rule))

    def test_many_choices(self):
        # All choices taken at once: 8 of each of 8 lasts of 8 parts.
        terms = [("first", [("of", SIX[at % 6], at * step) for at in range(8)]) for step in range(1, 9)]
        self.assertEqual(matters(Rule(("last", terms))), SIX)
        wide = Rule(("rank", 10, [("of", SIX[at % 6], at * at) for at in range(20)]))
        self.assertTrue(alike(of_rows(rows(wide)), wide))

    def test_put_in_again_and_again(self):
        rule = Rule(("rank", 2, [("of", "a", 1), ("of", "b", 0), ("of", "c", -1)]))
        table = {"a": rule, "b": mirrored(rule), "c": rule}
        for _ in range(3):
            rule = put_in(rule, table)
        self.assertTrue(alike(of_columns(columns(rule)), rule))

    def test_forty_rows_of_six_names(self):
        rng = seeded(2)
        some = spread_rows(rng, SIX, 40)
        rule = of_rows(some)
        self.assertEqual(rows(rule), sorted(some))
        self.assertTrue(len(columns(rule)) > 1000)
        self.assertEqual(len(slack(rule)), 240)
        self.assertIsNone(parting(rule, of_rows(some[::-1])))
        stairs = [[(SIX[2 * at], step), (SIX[2 * at + 1], -step)] for at in range(3) for step in range(13)]
        self.assertEqual(len(columns(of_rows(stairs))), 14 ** 3)
        self.assertEqual(len(rows(of_columns(stairs))), 14 ** 3)

    def test_books_of_five_scribes(self):
        for terms in [FIVE, FIVE_MORE]:
            book = book_of(terms)
            bare = flat(book)
            late = after(book, 2)
            hours = {"a": 10 ** 29, "b": -5, "c": 10 ** 29 - 300, "d": 10 ** 29 + 400, "e": 17}
            self.assertEqual(hours_behind(late, hours), hours_behind(book, hours_behind(bare, hours)))
            self.assertTrue(alike_books(book, bare))
            self.assertEqual(alike_from(book, bare, 2), 1)

    def test_parting_books_of_five_scribes(self):
        book = book_of(FIVE)
        other = book.changed("e", Rule(("rank", 3, FIVE["e"][2])))
        value = parting_after(book, other, 2)
        self.assertTrue(check_parting_after(book, other, 2, value))
        self.assertIsNone(alike_from(book, other, 2))

    def test_books_of_three_scribes(self):
        book = book_of(THREE)
        late = after(book, 3)
        hours = {"a": 10 ** 29, "b": 10 ** 29 - 120, "c": 10 ** 29 + 90}
        self.assertEqual(hours_behind(late, hours), hours_behind(book, hours_behind(book, hours_behind(book, hours))))
        self.assertIsNone(parting_after(book, flat(book), 3))

    def test_returned_books_of_forty_rows(self):
        rng = seeded(3)
        names = "abcde"
        rules = []
        for name in names:
            some = [[(other, rng.randint(0, 40)) for other in names] for _ in range(160)]
            rules.append((name, of_rows([row for row in some if 90 < sum(wait for _, wait in row) < 110][:40])))
        book = Book(rules)
        self.assertEqual([len(rows(rule)) for _, rule in rules], [39, 40, 40, 40, 40])
        hours = random_hours(rng, names, 50)
        self.assertEqual(hours_behind(then(book, book), hours), hours_behind(book, hours_behind(book, hours)))

    def test_time_does_not_grow_with_numbers(self):
        for scale in [1, 10 ** 9, 10 ** 27]:
            terms = {name: ("rank", term[1], [(word, other, wait * scale) for word, other, wait in term[2]])
                     for name, term in FIVE.items()}
            self.assertEqual(len(rows(after(book_of(terms), 2).rule("b"))), 156)

    def test_three_hundred_rounds(self):
        for book in [book_of(FIVE), flat(book_of(FIVE)), book_of(THREE)]:
            hours = {name: 10 ** 29 for name in book.names()}
            every = run(book, hours, 300)
            self.assertEqual(hours_after(book, every[1], 299), every[300])
            self.assertIsNone(first_round(book, hours, "a", 10 ** 30, 300))
            self.assertEqual(meeting(book, hours, every[-1], 0), None)
            meeting(book, hours, dict(hours, b=-10 ** 29), 300)

    def test_late_rules_of_the_greatest_size(self):
        rng = seeded(4)
        for _ in range(20):
            one, other = random_rule(rng, 8, SIX, (), LONG_WAIT), random_rule(rng, 8, SIX, (), LONG_WAIT)
            self.assertTrue(is_late_rule(late_rule(one)))
            self.assertIs(same_lates(one, other), parting_lates(one, other) is None)
            self.assertEqual(len(harmless(one, 10 ** 29)), len(rows(late_rule(one))))
            self.assertTrue(all(name in matters(one) for name in whole_names(one)))

    def test_late_rules_of_forty_rows(self):
        rng = seeded(5)
        some = spread_rows(rng, SIX, 40)
        self.assertEqual(rows(late_rule(of_rows(some))), [[(name, 0) for name in SIX]])
        rule = of_rows(spread_rows(rng, SIX[:5], 39) + [[("a", 10 ** 6)]])
        self.assertEqual(whole_names(rule), ["a"])
        self.assertTrue(len(harmless(rule, 0)) > 100)
        self.assertFalse(is_late_rule(rule))

    def test_late_books_of_five_scribes(self):
        late = late_after(book_of(FIVE_LATE), 2)
        self.assertEqual(len(rows(late.rule("c"))), 2173)

    def test_over_told_of_five_scribes(self):
        self.assertEqual(over_told(book_of(FIVE), 2), {"a": 0, "b": 0, "c": 0, "d": 0, "e": 0})
        self.assertIsNone(over_told(book_of(FIVE_MORE), 2)["c"])

    def test_lateness_in_books_of_five_scribes(self):
        for terms, name in [(FIVE, "e"), (FIVE_MORE, "d"), (FIVE_LATE, "c")]:
            book, lates = book_of(terms), {"a": LONG_WAIT, "c": -LONG_WAIT}
            most, least = most_late(book, lates, name, 2), least_late(book, lates, name, 2)
            self.assertEqual(held_late(book, lates, name, 2, []), most)
            hours = late_hours(book, lates, name, 2, (most + least) // 2)
            self.assertEqual(late_at(book, lates, hours, 2)[name], (most + least) // 2)
            self.assertEqual(late_stair(book, "a", name, 2).value(LONG_WAIT), most_late(book, {"a": LONG_WAIT}, name, 2))
            self.assertEqual(name in reached(book, "a", 2), [] not in stopping(book, "a", name, 2))
            self.assertTrue(is_can_ever(book, "a", name, can_ever(book, "a", name)))

    def test_lateness_in_books_of_three_scribes(self):
        terms = {name: (term[0], min(term[1], 4), term[2][:4]) for name, term in THREE.items()}
        book = book_of(terms)
        for name in "abc":
            lates = {"b": 10 ** 29}
            most = most_late(book, lates, name, 3)
            self.assertEqual(late_at(book, lates, late_hours(book, lates, name, 3, most), 3)[name], most)
            self.assertEqual(late_stair(book, "b", name, 3).value(10 ** 29), most)
            stopping(book, "b", name, 3)
        over_told(book, 3)
        late_at(book, {"b": 10 ** 29}, {"a": 0, "b": 10 ** 29, "c": -10 ** 29}, 30)

    def test_runs_of_thirty_rounds(self):
        folding = {
            "a": ("rank", 4, [("of", "b", -602), ("of", "b", 107), ("of", "a", -104), ("of", "c", -825), ("of", "c", 181),
                              ("of", "a", 978)]),
            "b": ("rank", 3, [("of", "a", 598), ("now", "a", -180), ("of", "b", 801), ("of", "a", 816), ("now", "c", -567),
                              ("now", "c", -233)]),
            "c": ("last", [("of", "c", -38), ("now", "a", 496), ("now", "a", -458), ("of", "a", -72), ("of", "b", 931),
                           ("of", "b", 498)]),
        }
        for terms in [folding, FIVE, FIVE_MORE, FIVE_LATE]:
            book = book_of(terms)
            hours = {name: at * at * 10 ** 3 - 300 * at for at, name in enumerate(book.names())}
            stairs = carried(book, hours, ["a", "c"], 30)[30]
            late = {name: hour + (LONG_WAIT if name in ("a", "c") else 0) for name, hour in hours.items()}
            self.assertEqual({name: stair.value(LONG_WAIT) for name, stair in stairs.items()}, hours_after(book, late, 30))
            count = spare(book, hours, ["c"], "b", 30, 10 ** 29)
            self.assertTrue(count is None or count >= -1)
            self.assertEqual(len(felt(book, hours, ["a"], 10 ** 29, 30)), 31)

    def test_deciding_names_of_the_greatest_rules(self):
        rng = seeded(7)
        rules = [random_rule(rng, 8, SIX, (), LONG_WAIT) for _ in range(10)] + [of_rows(spread_rows(rng, SIX, 40))]
        for rule in rules:
            hours = random_hours(rng, SIX, 10 ** 29)
            self.assertTrue(all(set(one) & set(two) for one in holders(rule, hours) for two in hasteners(rule, hours)))
            self.assertTrue(all(set(one) & set(two) for one in pacers(rule, hours) for two in delayers(rule, hours)))
            self.assertTrue(set(deciding(rule, hours)).isdisjoint(open_names(rule, hours)))
            for name in deciding(rule, hours):
                leeway(rule, hours, name)
            self.assertTrue(check_earlier(rule, hours, [], earlier_hours(rule, hours, [])))
            self.assertTrue(check_later(rule, hours, [], later_hours(rule, hours, [])))

    def test_windows_of_books_of_five_scribes(self):
        for terms in [FIVE, FIVE_MORE, FIVE_LATE]:
            book = book_of(terms)
            rounds = run(book, {name: at * 200 for at, name in enumerate("abcde")}, 1)
            keys = [(1, name) for name in "abcde"] + [(0, "c")]
            for wide in [0, 300, 10 ** 29]:
                windows = {key: (rounds[key[0]][key[1]] - wide, rounds[key[0]][key[1]] + wide) for key in keys}
                self.check_windows(book, windows)

    def test_windows_of_books_of_three_scribes(self):
        rng = seeded(8)
        for terms in [THREE, {name: (term[0], min(term[1], 3), term[2][:3]) for name, term in THREE.items()}]:
            book = book_of(terms)
            latest = 1 if terms is THREE else 2
            hours = random_hours(rng, "abc", 50)
            rounds = run(book, hours, 2)
            windows = {(at, name): (rounds[at][name] - 4, rounds[at][name] + 9) for at in (latest - 1, latest) for name in "abc"}
            self.check_windows(book, windows)
            self.assertTrue(keeps(book, windows, hours))

    def check_windows(self, book, windows):
        hours = some_hours(book, windows)
        self.assertTrue(keeps(book, windows, hours))
        self.assertIsNone(why_none(book, windows))
        for low, high in boxes(book, windows):
            self.assertTrue(all(low[name] is None or high[name] is None or low[name] <= high[name] for name in low))
        self.assertLessEqual(widening(book, windows), 0)
        narrow = tightest(book, windows)
        self.assertTrue(keeps(book, narrow, hours))
        self.assertIsNone(same_windows(book, windows, narrow))
        for name in book.names():
            low, high = room(book, windows, hours, name)
            self.assertTrue((low is None or low <= hours[name]) and (high is None or hours[name] <= high))
        self.assertIsNotNone(common_room(book, windows, hours))

    def test_sights_of_six_names_and_eight_rows(self):
        rng = seeded(9)
        for most in [7, LONG_WAIT, None]:
            rule = Rule(("rank", 3, [("of", name, rng.randint(0, most or 9)) for name in SIX]))
            seen = []
            for _ in range(8):
                hours = {name: rng.randint(0, (most or 9) * 2) for name in SIX}
                seen.append((hours, told(rule, hours), told(rule, hours)))
            sights = Sights(SIX, most, seen)
            self.assertTrue(rule_fits(sights, rule))
            for hours, hour, _ in seen:
                self.assertEqual([latest_at(sights, hours), earliest_at(sights, hours)], [hour, hour])
                self.assertEqual(moments(sights, hours), [(hour, hour)])
            self.assertTrue(all(set(one) & set(two) for one in lots_seen(sights) for two in lots_stop(sights)))
            self.assertTrue(all(name in lot for name in must_see(sights) for lot in lots_seen(sights)))
            self.assertEqual([still_fit(sights), lots_wrong(sights), clash(sights)], [8, [[]], None])
            self.assertTrue(all(same_sights(sights, sights.without(at)) for at in needless(sights)))
            wrong = Sights(SIX, most, [(hours, hour + at % 2 * 10 ** 29, None) if at % 2 else (hours, None, hour)
                                       for at, (hours, hour, _) in enumerate(seen)])
            self.assertEqual(len(lots_wrong(wrong)) > 0, True)
            if most is not None:
                last_latest(sights)
                last_moments(sights, {name: 10 ** 29 for name in SIX})

    def test_rules_out_of_sights(self):
        rng = seeded(10)
        for number in range(6):
            three, four = SIX[:3], SIX[:4]
            rule = Rule(("rank", 2, [("of", name, rng.randint(0, LONG_WAIT)) for name in three]))
            seen = [{name: rng.randint(0, 2 * LONG_WAIT) for name in four} for _ in range(6)]
            wide = Sights(four, LONG_WAIT, [(hours, told(rule, hours), told(rule, hours)) for hours in seen])
            self.assertEqual(len(telling_hours(wide)), 4)
            near = Sights(three, LONG_WAIT, [({name: hours[name] for name in three}, told(rule, hours), None)
                                             for hours in seen[:3]])
            hours = {name: number * LONG_WAIT for name in three}
            for low, high in moments(near, hours):
                for hour in [low, (low + high) // 2, high]:
                    found = rule_with(near, hours, hour)
                    self.assertEqual([told(found, hours), rule_fits(near, found)], [hour, True])
            other = unlike_rule(near, near.without(0))
            self.assertTrue(other is None or rule_fits(near, other) != rule_fits(near.without(0), other))

    def test_thirty_rounds_of_what_was_seen(self):
        book = book_of(FIVE)
        begin = {name: at * 100 for at, name in enumerate("abcde")}
        seen = watched(book, begin, 8, None)
        every = run(book, begin, 30)
        for many in range(8):
            self.assertEqual(after_rounds(seen, begin, many), [(name, every[many][name], every[many][name]) for name in "abcde"])
        for name, least, greatest in after_rounds(seen, begin, 30):
            self.assertLessEqual(least, every[30][name])
            self.assertLessEqual(every[30][name], greatest)

    def test_differences_of_the_greatest_rules(self):
        rng = seeded(11)
        for _ in range(15):
            one, other = random_rule(rng, 8, SIX, (), LONG_WAIT), random_rule(rng, 8, SIX, (), LONG_WAIT)
            self.check_differences(one, other)
        self.check_differences(of_rows(spread_rows(rng, SIX, 40)), of_rows(spread_rows(rng, SIX, 40)))

    def check_differences(self, one, other):
        least, most = spread(one, other)
        for number in [least or -10 ** 29, most or 10 ** 29]:
            hours = hours_of(one, other, number)
            self.assertEqual(told(one, hours) - told(other, hours), number)
        if most is not None:
            self.assertIsNone(hours_of(one, other, most + 1))
            self.assertTrue(is_why_at_most(one, other, most, why_at_most(one, other, most)))
            self.assertIsNone(why_at_most(one, other, most - 1))

    def test_leads_in_the_greatest_books(self):
        four_parts = {name: (term[0], min(term[1], 4), term[2][:4]) for name, term in THREE.items()}
        for terms, many in [(FIVE, 2), (FIVE_MORE, 2), (FIVE_LATE, 2), (four_parts, 3)]:
            book = book_of(terms)
            for call, hours_call, name in [(front, front_hours, "b"), (rear, rear_hours, "a"), (rear, rear_hours, "c")]:
                most = call(book, name, many)
                hours = hours_call(book, name, -10 ** 9 if most is None else most, many)
                self.assertTrue(hours is None or len(hours) == len(book))
                self.assertTrue(most is None or hours_call(book, name, most + 1, many) is None)
            for one, other in [("a", "b"), ("c", "a")]:
                most = lead(book, one, other, many)
                number = 10 ** 29 if most is None else most
                now = hours_after(book, lead_hours(book, one, other, number, many), many)
                self.assertEqual(now[one] - now[other], number)
            self.assertEqual(sure_order(book), sorted(sure_order(book)))

    def test_a_hall_of_a_hundred_changes(self):
        hall = Hall(book_of(FIVE), {name: 10 ** 29 for name in "abcde"})
        for at in range(25):
            hall.round(300)
            hall.late("abcde"[at % 5], 10 ** 29)
            hall.put("c", Rule(("rank", 2, FIVE["c"][2][at % 3:])))
            hall.round(300)
        self.assertEqual([hall.rounds(), len(hall.log())], [15000, 100])
        self.assertEqual(replayed(book_of(FIVE), {name: 10 ** 29 for name in "abcde"}, hall.log()).hours(), hall.hours())
        for _ in range(100):
            hall.undo()
        self.assertEqual(hall.hours()["b"], 10 ** 29)
        for _ in range(100):
            hall.redo()
        self.assertEqual([hall.rounds(), hall.copy().hours()], [15000, hall.hours()])
        self.assertEqual(self.deep(hall, 10), 15010)
        self.assertEqual(hall.rounds(), 15000)

    def deep(self, hall, many):
        with hall.trial():
            hall.round()
            return hall.attempt(lambda same: self.deep(same, many - 1)) if many > 1 else hall.rounds()

    def test_reach_of_thirty_rounds(self):
        for terms in [FIVE, FIVE_MORE, FIVE_LATE, THREE]:
            book = book_of(terms)
            hall = Hall(book, {name: at * 137 for at, name in enumerate(book.names())})
            for name in book.names():
                reach = hall.reach(name, 30)
                for other in book.names():
                    self.assertEqual(other in reach, hall.spare(name, other, 30) is not None)

    def test_partings_of_the_greatest_halls(self):
        for terms in [FIVE, FIVE_MORE, FIVE_LATE, THREE]:
            book = book_of(terms)
            hours = {name: at * 10 ** 29 for at, name in enumerate(book.names())}
            for name, term in terms.items():
                rank = term[1] if term[0] == "rank" else 1
                for other_term in [("rank", 1 + rank % len(term[-1]), term[-1]), (term[0],) + term[1:-1] + (term[-1][::-1],)]:
                    one, other = Hall(book, hours), Hall(book.changed(name, Rule(other_term)), hours)
                    changes = parting_changes(one, other)
                    self.assertEqual(changes is None, alike_halls(one, other))
                    self.assertTrue(changes is None or len(changes) <= 2 * len(book))
                    self.assertEqual(check_parting_changes(one, other, changes), changes is not None)
                    self.assertTrue(same_runs(one, other) or changes is not None)

    def test_a_script_of_thirty_commands(self):
        commands = [("round", 300), ("late", "a", 10 ** 29), ("put", "c", Rule(FIVE["c"])), ("undo",), ("redo",), ("hours",)] * 4
        script = commands[1:] + [("try", [("round", 300), ("try", [("leave", "a"), ("try", [("try", [("round", 300)])])])])]
        hall = Hall(book_of(FIVE), {name: 10 ** 29 for name in "abcde"})
        said = play(hall, script)
        self.assertEqual([len(said), hall.rounds()], [24, 900])
        self.assertEqual(refused(book_of(FIVE), script), [])
        self.assertEqual(read_script(script_text(script)), script)
        self.assertEqual(len(said_text(said).split("\n")), 30)

    def test_ends_of_scripts(self):
        terms = {
            "c": ("rank", 3, [("of", "b", -85), ("of", "c", -49), ("of", "a", -4), ("of", "d", -75)]),
            "d": ("rank", 3, [("now", "c", -72), ("now", "c", -29), ("of", "a", 91), ("of", "d", 62)]),
            "a": ("rank", 2, [("now", "c", -10), ("of", "c", 27), ("now", "d", -89), ("of", "b", -48)]),
            "b": ("rank", 2, [("of", "d", -89), ("of", "c", -35), ("now", "a", 30), ("now", "a", -10)]),
        }
        book = book_of(terms)
        script = [("leave", "zed"), ("late", "a", 10 ** 29), ("round", 2), ("late", "b", 10 ** 12), ("put", "c", Rule(terms["c"])),
                  ("late", "c", 7), ("round", 1), ("hours",)]
        other = [command for command in script if command[0] != "hours"]
        self.assertTrue(same_end(book, script, other))
        self.assertEqual(trimmed(book, script), trimmed(book, other))
        other[5] = ("late", "c", 8)
        hours = parting_begin(book, script, other)
        self.assertTrue(check_parting_begin(book, script, other, hours))
        joined = [("late", "a", 5), ("round", 1), ("round", 2), ("late", "d", 1)]
        self.assertIsNone(parting_begin(book, joined, joined[:1] + [("round", 2), ("round", 1), joined[-1]]))

    def test_the_greatest_texts(self):
        line = "rank 14(" + ", ".join(["now abcdefgh -123456789012"] * 7 + ["abcdefgi 123456789012"] * 7) + ")"
        self.assertEqual(rule_text(read_rule(line)), line)
        hours = ", ".join(f"{first}{second} {10 ** 29}" for first in "abc" for second in "abcd")
        every = "\n".join([hours] * 60)
        self.assertEqual(run_text(read_run(every)), every)
        self.assertEqual(rows_text(read_rows(every)), every)
        windows = "\n".join(f"{-10 ** 29} to {10 ** 29}: {at} abcdefgh" for at in range(60))
        self.assertEqual(windows_text(read_windows(windows)), windows)
        names = [word.split(" ")[0] for word in hours.split(", ")]
        sights = "\n".join(["any: " + ", ".join(names)] + ["to: " + hours] * 59)
        self.assertEqual(sights_text(read_sights(sights)), sights)
        book = "\n".join(f"{name}: last(" + ", ".join(f"{other} {10 ** 9}" for other in names) + ")" for name in names)
        self.assertEqual(book_text(read_book(book)), book)
        script = "\n".join([f"late abcdefgh {10 ** 29}"] * 60)
        self.assertEqual(script_text(read_script(script)), script)
        stair = f"{-10 ** 29}: " + ", ".join(str(at * 10 ** 20) for at in range(18))
        self.assertEqual(stair_text(read_stair(stair)), stair)
        deep = "first(" * 60 + "a 0" + ")" * 60
        self.assertEqual(rule_text(read_rule(deep)), deep)

    def test_stairs_of_forty_corners(self):
        rng = seeded(6)
        for scale in [50, 10 ** 6, 10 ** 30 - 1]:
            stairs = [Stair(rng.randint(0, scale), sorted(rng.sample(range(scale), 40))) if scale < 10 ** 9 else
                      Stair(rng.randint(0, scale), sorted({rng.randint(0, scale) for _ in range(40)})) for _ in range(6)]
            for count in [0, scale // 3, scale]:
                told_by_all = sorted(stair.value(count) for stair in stairs)
                for number in range(1, 7):
                    self.assertEqual(rank_of(number, stairs).value(count), told_by_all[number - 1])
                self.assertEqual([first_of(stairs).value(count), last_of(stairs).value(count)],
                                 [told_by_all[0], told_by_all[-1]])
            for one in stairs:
                for other in stairs:
                    self.assertEqual(put_behind(one, other).value(scale), other.value(one.value(scale)))
                    self.assertEqual(first_unlike(one, other) is None, one is other)
                    self.assertGreaterEqual(widest_stair(one, other), one.begin - other.begin)


if __name__ == "__main__":
    unittest.main()
