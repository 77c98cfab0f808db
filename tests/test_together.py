"""What the modules say of one another, of one and the same book."""

import unittest

from leafwaits.books import after, flat, hours_behind, parting_after, turned_about
from leafwaits.differences import hours_of, spread
from leafwaits.late import late_at, late_stair, least_late, most_late, reached
from leafwaits.latebook import late_after, late_rule
from leafwaits.leads import front, lead, lead_hours, rear, sure_order
from leafwaits.live import Hall, alike_halls, parting_changes, replayed, same_runs
from leafwaits.rounds import first_round, hours_after, run
from leafwaits.rows import columns, never_behind, of_rows, rows
from leafwaits.rules import Rule, named, told
from leafwaits.runs import carried, delayers, felt, hasteners, holders, leeway, pacers, spare
from leafwaits.scripts import play, read_script, refused, same_end, script_text
from leafwaits.seen import Sights, after_rounds, earliest_columns, fits, latest_rows, moments, must_see, rule_fits, watched
from leafwaits.stairs import Stair, put_behind, rank_of
from leafwaits.texts import book_text, hours_text, read_book, read_run, read_sights, read_stair, read_windows, run_text
from leafwaits.texts import sights_text, stair_text, windows_text
from leafwaits.windows import begins, boxes, common_room, ends, keeps, room, some_hours, tightest
from support import make, random_book, random_hours, seeded, state

FAR = 10 ** 9


def cases(number, many=25, names="abc", parts=4):
    rng = seeded(number)
    for _ in range(many):
        yield rng, random_book(rng, names, parts, 4), random_hours(rng, names, 8)


class LatenessTest(unittest.TestCase):
    def test_this_run_is_never_later_than_all_runs(self):
        for rng, book, hours in cases(1):
            who, many = rng.choice("abc"), rng.randint(1, 2)
            stairs = carried(book, hours, [who], many)[many]
            hall = Hall(book, hours)
            reach = hall.reach(who, many)
            self.assertTrue(all(name in reached(book, who, many) for name in reach))
            for name in "abc":
                widest = late_stair(book, who, name, many)
                stair = stairs[name].shifted(-stairs[name].begin)
                for count in [0, 1, 2, 5, 9, FAR]:
                    late = late_at(book, {who: count}, hours, many)[name]
                    self.assertEqual(stair.value(count), late)
                    self.assertEqual(felt(book, hours, [who], count, many)[many].get(name, 0), late)
                    self.assertLessEqual(late, widest.value(count))
                    self.assertEqual(widest.value(count), most_late(book, {who: count}, name, many))
                    lates = {other: count if other == who else 0 for other in "abc"}
                    self.assertEqual(told(late_after(book, many).rule(name), lates), widest.value(count))
                    self.assertGreaterEqual(late, least_late(book, {who: count}, name, many))
                self.assertEqual(name in reach, stair.corners != [])
                self.assertEqual(hall.spare(who, name, many), spare(book, hours, [who], name, many, stairs[name].begin))
                self.assertEqual(hall.spare(who, name, many), stair.undone(0))

    def test_late_rules_and_differences(self):
        for rng, book, hours in cases(2):
            rule = flat(book).rule("a")
            lates = {name: rng.randint(0, 5) for name in "abc"}
            moved = of_rows([[(name, wait + lates[name]) for name, wait in row] for row in rows(rule)])
            self.assertEqual(spread(moved, rule)[1], told(late_rule(rule), lates))
            self.assertEqual(spread(moved, rule)[1], most_late(book, lates, "a", 1))
            self.assertEqual(spread(moved, rule)[0], least_late(book, lates, "a", 1))

    def test_stairs_of_terms(self):
        book = random_book(seeded(3), "abc", 4, 4)
        rule = Rule(("rank", 2, [("of", "a", 1), ("of", "b", 0), ("of", "c", -2)]))
        hours = {"a": 0, "b": 3, "c": 5}
        stairs = carried(book.changed("a", rule), hours, ["a", "c"], 1)
        parts = [stairs[0]["a"].shifted(1), stairs[0]["b"], stairs[0]["c"].shifted(-2)]
        self.assertEqual(stairs[1]["a"], rank_of(2, parts))
        self.assertEqual(put_behind(Stair(0, [0]), stairs[1]["a"]), stairs[1]["a"])

    def test_leeway_and_spare(self):
        for rng, book, hours in cases(4):
            rule, name = flat(book).rule("b"), rng.choice("abc")
            later = leeway(rule, hours, name)[1] if name in named(rule)[0] else None
            self.assertEqual(Hall(book, hours).spare(name, "b", 1), later)
            free = any(name not in lot for lot in pacers(rule, hours))
            self.assertEqual(later is None, free)
            self.assertEqual(later is not None, [name] in delayers(rule, hours))
            turned = {other: -hour for other, hour in hours.items()}
            self.assertEqual(holders(rule, hours), pacers(flat(turned_about(book)).rule("b"), turned))
            self.assertEqual(hasteners(rule, hours), delayers(flat(turned_about(book)).rule("b"), turned))


class WindowsTest(unittest.TestCase):
    def test_windows_of_a_run(self):
        for rng, book, hours in cases(5):
            rounds = run(book, hours, 2)
            keys = [(many, name) for many in range(3) for name in "abc"]
            windows = {key: (rounds[key[0]][key[1]] - rng.randint(0, 3), rounds[key[0]][key[1]] + rng.randint(0, 3))
                       for key in rng.sample(keys, rng.randint(1, 4))}
            self.assertTrue(keeps(book, windows, hours))
            self.assertTrue(keeps(book, windows, some_hours(book, windows)))
            lows, highs = zip(*boxes(book, windows))
            self.assertTrue(all(low in begins(book, windows) for low in lows))
            self.assertTrue(all(high in ends(book, windows) for high in highs))
            narrow = tightest(book, windows)
            self.assertEqual(read_windows(windows_text(narrow)), narrow)
            self.assertTrue(keeps(book, narrow, hours))
            for name in "abc":
                earliest, latest = room(book, windows, hours, name)
                spares = [spare(book, hours, [name], other, many, high) for (many, other), (_, high) in windows.items()]
                spares = [count for count in spares if count is not None]
                self.assertEqual(latest, hours[name] + min(spares) if spares else None)
            counts = [spare(book, hours, ["a", "b", "c"], other, many, high) for (many, other), (_, high) in windows.items()]
            self.assertEqual(common_room(book, windows, hours)[1], min(counts))

    def test_ends_are_harmless_beginnings(self):
        for rng, book, hours in cases(6):
            now = hours_after(book, hours, 1)
            for end in ends(book, {(1, "b"): (None, now["b"])}):
                late = {name: FAR if hour is None else hour for name, hour in end.items()}
                self.assertEqual(hours_behind(book, late)["b"], now["b"])
            self.assertEqual(len(ends(book, {(1, "b"): (None, 7)})), len(rows(flat(book).rule("b"))))
            self.assertEqual(len(begins(book, {(1, "b"): (7, None)})), len(columns(flat(book).rule("b"))))


class SightsTest(unittest.TestCase):
    def test_sights_of_a_run(self):
        for rng, book, hours in cases(7):
            seen = watched(book, hours, 3, None)
            every = run(book, hours, 4)
            for name, sights in seen.items():
                rule = flat(book).rule(name)
                self.assertTrue(fits(sights) and rule_fits(sights, rule))
                self.assertTrue(never_behind(rule, of_rows(latest_rows(sights))))
                self.assertIn(every[4][name], range(*[end + at for at, end in enumerate(moments(sights, every[3])[0])]))
                self.assertEqual(read_sights(sights_text(sights)), sights)
                self.assertTrue(set(must_see(sights)) <= set(name for row in rows(rule) for name, _ in row))
                self.assertTrue(earliest_columns(sights))
            self.assertEqual(after_rounds(seen, hours, 3), [(name, every[3][name], every[3][name]) for name in "abc"])
            for name, least, greatest in after_rounds(seen, hours, 4):
                self.assertTrue(least <= every[4][name] <= greatest)

    def test_sights_with_one_high_and_windows(self):
        sights = Sights(["a", "b"], None, [({"a": 2, "b": 5}, None, 9)])
        self.assertEqual(latest_rows(sights), [[("a", 7), ("b", 4)]])
        self.assertEqual(moments(sights, {"a": 2, "b": 5}), [(None, 9)])


class LeadsTest(unittest.TestCase):
    def test_leads_and_differences(self):
        for rng, book, hours in cases(8):
            many = rng.randint(1, 2)
            behind = after(book, many)
            for one in "abc":
                for other in "abc":
                    least, most = spread(behind.rule(one), behind.rule(other))
                    self.assertEqual(lead(book, one, other, many), most)
                    number = rng.randint(-4, 4)
                    found = lead_hours(book, one, other, number, many)
                    self.assertEqual(found is None, hours_of(behind.rule(one), behind.rule(other), number) is None)
                    if one != other:
                        self.assertEqual((one, other) in sure_order(book),
                                         never_behind(flat(book).rule(one), flat(book).rule(other)))
                now = hours_after(book, hours, many)
                others = [now[other] for other in "abc" if other != one]
                self.assertTrue(front(book, one, many) is None or min(others) - now[one] <= front(book, one, many))
                self.assertTrue(rear(book, one, many) is None or now[one] - max(others) <= rear(book, one, many))


class HallsTest(unittest.TestCase):
    def test_halls_scripts_and_texts(self):
        for rng, book, hours in cases(9):
            hall = Hall(read_book(book_text(book)), hours)
            script = [("round", 2), ("late", "b", rng.randint(0, 4)), ("try", [("leave", "a"), ("round", 1)]), ("put", "c", Rule(("of", "a", 1))),
                      ("join", "zed", Rule(("now", "a", 1)), 7), ("round", 1), ("undo",), ("redo",), ("leave", "zed"), ("hours",)]
            said = play(hall, read_script(script_text(script)))
            self.assertEqual([said[0], said[-1]], [("passed", hours_after(book, hours, 2)), ("hours", hall.hours())])
            self.assertEqual(refused(book, script), [at for at, item in enumerate(said) if item[0] == "refused"])
            again = replayed(book, hours, hall.log())
            self.assertTrue(alike_halls(hall, again) and same_runs(hall, again))
            self.assertIsNone(parting_changes(hall, again))
            self.assertTrue(same_end(book, script, hall.log()))
            self.assertEqual(read_script(script_text(hall.log())), hall.log())
            rounds = [hall.hours()] + [hall.round() for _ in range(3)]
            self.assertEqual(rounds, run(again.book(), again.hours(), 3))
            self.assertEqual(read_run(run_text(rounds)), rounds)
            self.assertEqual(run_text(rounds).split("\n")[3], hours_text(hall.hours()))
            self.assertEqual(first_round(again.book(), again.hours(), "a", rounds[2]["a"], 3),
                             [at for at, now in enumerate(rounds) if now["a"] >= rounds[2]["a"]][0])
            stair = carried(again.book(), again.hours(), ["a"], 3)[3]["b"]
            self.assertEqual(read_stair(stair_text(stair)), stair)

    def test_books_that_part_behind_some_rounds(self):
        parted = 0
        for rng, book, hours in cases(10):
            other = book.changed("a", random_book(rng, "a", 2, 4).rule("a"))
            found = parting_after(book, other, 2)
            if found is not None:
                name, begin = found
                halls = [Hall(book, begin), Hall(other, begin)]
                self.assertNotEqual(halls[0].round(2)[name], halls[1].round(2)[name])
                self.assertFalse(same_runs(Hall(book, hours), Hall(other, hours)))
                self.assertFalse(alike_halls(Hall(book, hours), Hall(other, hours)))
                parted += 1
        self.assertGreater(parted, 5)

    def test_looking_changes_nothing(self):
        for rng, book, hours in cases(11, 8):
            hall = Hall(book, hours)
            make(hall, ("late", "a", 3))
            make(hall, ("round", 2))
            hall.undo()
            before = state(hall)
            hall.reach("a", 2)
            hall.spare("a", "b", 2)
            same_runs(hall, hall)
            parting_changes(hall, Hall(book, hours))
            hall.attempt(lambda same: play(same, [("undo",), ("round", 9)]))
            self.assertEqual(state(hall), before)


if __name__ == "__main__":
    unittest.main()
