"""Points 140 to 146: halls, what is changed among them and taken back, and how they can be told apart."""

import copy
import itertools
import unittest

from leafwaits.books import Book, alike_books, flat
from leafwaits.errors import InvalidBook, InvalidCount, InvalidHall, InvalidHours, InvalidLog, InvalidName, InvalidRule
from leafwaits.errors import InvalidWhole, LeafError, NothingToRedo, NothingToUndo, StillNeeded, TakenName, UnknownName
from leafwaits.live import Hall, alike_halls, check_parting_changes, parting_changes, replayed, same_runs
from leafwaits.rows import of_rows, rows
from leafwaits.rules import Rule, named
from support import any_objects, behind_by_definition, make, random_book, random_hours, random_rule, readable_log
from support import rounds_by_definition, seeded, state

RISING = Rule(("of", "ann", 2))
PAIR = Book([("ann", RISING), ("bob", Rule(("last", [("of", "ann", 1), ("of", "bob", 1)])))])
BEGIN = {"ann": 0, "bob": 5}


class Plain:
    """A hall kept in the plainest way: each change is carried out by the words of point 141."""

    def __init__(self, book, hours):
        self.now = ([(name, book.rule(name)) for name in book.names()], dict(hours), 0)
        self.past, self.future, self.log = [], [], []

    def change(self, change):
        rules, hours, rounds = copy.copy(self.now[0]), dict(self.now[1]), self.now[2]
        word = change[0]
        if word == "round":
            for _ in range(change[1]):
                hours = behind_by_definition(Book(rules), hours)
            rounds += change[1]
        elif word == "late":
            hours[change[1]] += change[2]
        elif word == "put":
            rules = [(name, change[2] if name == change[1] else rule) for name, rule in rules]
        elif word == "join":
            rules, hours = rules + [(change[1], change[2])], dict(hours, **{change[1]: change[3]})
        else:
            rules = [pair for pair in rules if pair[0] != change[1]]
            del hours[change[1]]
        Book(rules)
        self.past.append(self.now)
        self.log.append(change)
        self.future = []
        self.now = (rules, hours, rounds)

    def undo(self):
        self.future.append((self.now, self.log.pop()))
        self.now = self.past.pop()

    def redo(self):
        self.past.append(self.now)
        self.now, change = self.future.pop()
        self.log.append(change)


def random_change(rng, names):
    word = rng.choice(["round", "round", "late", "late", "put", "put", "join", "leave"])
    name = rng.choice("abcde")
    if word == "round":
        return ("round", rng.randint(0, 2))
    if word == "late":
        return ("late", name, rng.randint(0, 6))
    if word == "leave":
        return ("leave", name)
    nows = names if rng.random() < 0.4 else ()
    rule = random_rule(rng, 3, names, nows, 4)
    return ("put", name, rule) if word == "put" else ("join", name, rule, rng.randint(-9, 9))


class HallTest(unittest.TestCase):
    def test_as_it_is_made(self):
        hours = {"bob": 5, "ann": 0}
        hall = Hall(PAIR, hours)
        hours["bob"] = 99
        self.assertEqual([hall.book() == PAIR, hall.hours(), list(hall.hours()), hall.rounds(), len(hall), hall.log()],
                         [True, BEGIN, ["ann", "bob"], 0, 2, []])
        hall.hours()["ann"] = 7
        hall.log().append(("round", 1))
        self.assertEqual([hall.hours(), hall.log(), hall == hall, hall is not None], [BEGIN, [], True, True])
        self.assertEqual(Hall(book=PAIR, hours=BEGIN).hours(), BEGIN)

    def test_wrong_beginnings(self):
        for value in any_objects():
            if not isinstance(value, Book):
                with self.assertRaises(InvalidBook) as caught:
                    Hall(value, None)
                self.assertIs(caught.exception.value, value)
        for value in any_objects() + [{"ann": 1, "bob": True}, {"ann": 1, "bob": 2, "cy": 3}, {"ann": 1}, {"ann": 1, "Bob": 2}]:
            with self.assertRaises(InvalidHours) as caught:
                Hall(PAIR, value)
            self.assertIs(caught.exception.value, value)

    def test_changes_one_by_one(self):
        rng = seeded(1)
        refused, back = {}, 0
        for _ in range(60):
            book = random_book(rng, "abc", 3, 3)
            hours = random_hours(rng, "abc")
            hall, plain = Hall(book, hours), Plain(book, hours)
            for _ in range(25):
                if rng.random() < 0.3:
                    step = rng.choice(["undo", "undo", "redo"])
                    there = plain.past if step == "undo" else plain.future
                    if there:
                        self.assertIsNone(getattr(hall, step)())
                        getattr(plain, step)()
                        back += 1
                    else:
                        with self.assertRaises(NothingToUndo if step == "undo" else NothingToRedo):
                            getattr(hall, step)()
                else:
                    change = random_change(rng, hall.book().names())
                    before = state(hall)
                    try:
                        answer = make(hall, change)
                    except LeafError as error:
                        refused[type(error).__name__] = True
                        self.assertEqual(state(hall), before)
                    else:
                        plain.change(change)
                        self.assertEqual(answer, plain.now[1] if change[0] == "round" else None)
                self.check_same(hall, plain)
            self.check_same(replayed(book, hours, hall.log()), plain)
        self.assertGreater(back, 100)
        self.assertEqual(sorted(refused), ["InvalidRule", "StillNeeded", "TakenName", "UnknownName"])

    def check_same(self, hall, plain):
        rules, hours, rounds = plain.now
        self.assertEqual([hall.book() == Book(rules), hall.hours(), hall.rounds(), len(hall)],
                         [True, hours, rounds, len(rules)])
        self.assertEqual(list(hall.hours()), hall.book().names())
        self.assertEqual(readable_log(hall.log()), readable_log(plain.log))

    def test_round(self):
        hall = Hall(PAIR, BEGIN)
        self.assertEqual([hall.round(), hall.round(many=2), hall.round(0), hall.rounds()],
                         [{"ann": 2, "bob": 6}, {"ann": 6, "bob": 8}, {"ann": 6, "bob": 8}, 3])
        self.assertEqual(hall.log(), [("round", 1), ("round", 2), ("round", 0)])
        told = hall.round(0)
        told["ann"] = 99
        self.assertEqual(hall.hours()["ann"], 6)
        self.assertEqual(hall.round(300), rounds_by_definition(PAIR, {"ann": 6, "bob": 8}, 300))
        hall.undo()
        self.assertEqual(hall.rounds(), 3)

    def test_nobody_else_is_late(self):
        book = Book([("ann", RISING), ("bob", Rule(("now", "ann", 1)))])
        hall = Hall(book, {"ann": 0, "bob": 1})
        hall.late(name="ann", by=10 ** 29)
        self.assertEqual(hall.hours(), {"ann": 10 ** 29, "bob": 1})
        self.assertEqual(hall.round(), {"ann": 10 ** 29 + 2, "bob": 10 ** 29 + 3})
        hall.put(name="bob", rule=RISING)
        hall.join(name="cy", rule=Rule(("now", "bob", 1)), hour=-5)
        self.assertEqual([hall.hours()["cy"], len(hall), hall.round()["cy"]], [-5, 3, 10 ** 29 + 5])
        hall.leave(name="cy")
        self.assertEqual(hall.log()[-2:], [("round", 1), ("leave", "cy")])


class ErrorsTest(unittest.TestCase):
    def setUp(self):
        self.hall = Hall(PAIR, BEGIN)

    def check(self, error, field, call, *arguments):
        before = state(self.hall)
        with self.assertRaises(error) as caught:
            call(*arguments)
        self.assertIs(caught.exception.value, field)
        self.assertEqual(state(self.hall), before)

    def test_round_late_and_leave(self):
        for value in [-1, True, None, "1", [1]]:
            self.check(InvalidCount, value, self.hall.round, value)
            self.check(InvalidCount, value, self.hall.late, "ann", value)
        for value in ["cy", "", None, ["ann"], {}, 1]:
            self.check(UnknownName, value, self.hall.late, value, -1)
            self.check(UnknownName, value, self.hall.leave, value)
            self.check(UnknownName, value, self.hall.put, value, None)
            self.check(UnknownName, value, self.hall.reach, value, None)
            self.check(UnknownName, value, self.hall.spare, value, "ann", None)
            self.check(UnknownName, value, self.hall.spare, "bob", value, -1)
        self.check(StillNeeded, "ann", self.hall.leave, "ann")
        self.hall.leave("bob")
        self.check(StillNeeded, "ann", self.hall.leave, "ann")

    def test_put_and_join(self):
        ring = Rule(("now", "bob", 1))
        self.hall.put("ann", ring)
        for value in [None, ("of", "ann", 1), Rule(("of", "cy", 1)), Rule(("now", "bob", 1)), Rule(("now", "ann", 1))]:
            self.check(InvalidRule, value, self.hall.put, "bob", value)
        for value in ["Cy", "", None, ["cy"], "abcdefghi", 1]:
            self.check(InvalidName, value, self.hall.join, value, None, None)
        self.check(TakenName, "ann", self.hall.join, "ann", None, None)
        for value in [None, Rule(("of", "dan", 1)), Rule(("now", "cy", 1))]:
            self.check(InvalidRule, value, self.hall.join, "cy", value, None)
        for value in [None, True, "1"]:
            self.check(InvalidWhole, value, self.hall.join, "cy", RISING, value)

    def test_reach_and_spare(self):
        for value in [-1, True, None, "1"]:
            self.check(InvalidCount, value, self.hall.reach, "ann", value)
            self.check(InvalidCount, value, self.hall.spare, "ann", "bob", value)

    def test_nothing_to_take_back_or_to_make_again(self):
        hall = Hall(PAIR, BEGIN)
        for call, error in [(hall.undo, NothingToUndo), (hall.redo, NothingToRedo)]:
            with self.assertRaises(error):
                call()
        hall.round(0)
        hall.late("ann", 0)
        hall.undo()
        hall.redo()
        with self.assertRaises(NothingToRedo):
            hall.redo()
        hall.undo()
        hall.undo()
        with self.assertRaises(NothingToUndo):
            hall.undo()
        with self.assertRaises(InvalidCount):
            hall.round(-1)
        hall.redo()
        self.assertEqual(hall.log(), [("round", 0)])
        hall.put("ann", RISING)
        with self.assertRaises(NothingToRedo):
            hall.redo()


class TrialTest(unittest.TestCase):
    def test_everything_is_as_it_was(self):
        rng = seeded(2)
        for _ in range(60):
            hall = Hall(random_book(rng, "abc", 3, 3), random_hours(rng, "abc"))
            self.do_something(rng, hall, 8, 0)
            before = state(hall)
            with hall.trial() as same:
                self.assertIs(same, hall)
                self.do_something(rng, hall, 8, 2)
            self.assertEqual(state(hall), before)
            with self.assertRaises(KeyError):
                with hall.trial():
                    self.do_something(rng, hall, 8, 2)
                    raise KeyError(5)
            self.assertEqual(state(hall), before)

    def do_something(self, rng, hall, many, deep):
        for _ in range(many):
            try:
                if rng.random() < 0.4:
                    getattr(hall, rng.choice(["undo", "redo"]))()
                elif deep and rng.random() < 0.2:
                    before = state(hall)
                    with hall.trial():
                        self.do_something(rng, hall, many, deep - 1)
                    self.assertEqual(state(hall), before)
                else:
                    make(hall, random_change(rng, hall.book().names()))
            except LeafError:
                pass

    def test_a_trial_that_is_not_begun(self):
        hall = Hall(PAIR, BEGIN)
        hall.round()
        trial = hall.trial()
        hall.late("ann", 3)
        self.assertEqual([hall.hours()["ann"], hall.log()], [5, [("round", 1), ("late", "ann", 3)]])
        with trial:
            hall.undo()
            hall.undo()
            self.assertEqual(hall.log(), [])
        self.assertEqual([hall.hours()["ann"], len(hall.log())], [5, 2])

    def test_what_can_be_undone_and_redone_is_as_it_was_too(self):
        hall = Hall(PAIR, BEGIN)
        hall.late("ann", 3)
        hall.late("ann", 4)
        hall.undo()
        with hall.trial():
            hall.undo()
            hall.round(5)
        hall.redo()
        self.assertEqual([hall.hours()["ann"], hall.rounds()], [7, 0])
        with hall.trial():
            hall.late("bob", 1)
        with self.assertRaises(NothingToRedo):
            hall.redo()

    def test_errors_are_passed_on(self):
        hall = Hall(PAIR, BEGIN)
        with self.assertRaises(UnknownName) as caught:
            with hall.trial():
                hall.round(3)
                hall.leave("cy")
        self.assertEqual([caught.exception.value, hall.rounds()], ["cy", 0])

    def test_attempt(self):
        hall = Hall(PAIR, BEGIN)
        kept = []

        def action(same):
            self.assertIs(same, hall)
            same.round(2)
            kept.append(same.hours())
            return kept

        self.assertIs(hall.attempt(action), kept)
        self.assertIs(hall.attempt(action=action), kept)
        self.assertEqual([kept, hall.rounds(), hall.log()], [[{"ann": 4, "bob": 7}] * 2, 0, []])
        self.assertIs(hall.attempt(lambda same: same), hall)
        with self.assertRaises(ZeroDivisionError):
            hall.attempt(lambda same: same.round() and 1 // 0)
        self.assertEqual(hall.rounds(), 0)
        deep = lambda same, many: (same.late("ann", 1), many and same.attempt(lambda inner: deep(inner, many - 1)))[1] or same.hours()
        self.assertEqual(hall.attempt(lambda same: deep(same, 9))["ann"], 10)
        self.assertEqual(hall.hours(), BEGIN)

    def test_copies(self):
        rng = seeded(3)
        for _ in range(30):
            hall = Hall(random_book(rng, "abc", 3, 3), random_hours(rng, "abc"))
            self.do_something(rng, hall, 10, 0)
            other = hall.copy()
            self.assertIsNot(other, hall)
            before = state(hall)
            self.assertEqual(state(other), before)
            self.do_something(rng, other, 10, 1)
            self.assertEqual(state(hall), before)
            behind = state(other)
            self.do_something(rng, hall, 10, 1)
            self.assertEqual(state(other), behind)

    def test_copies_made_within_a_block(self):
        hall = Hall(PAIR, BEGIN)
        with hall.trial():
            hall.round(2)
            other = hall.copy()
        other.undo()
        other.redo()
        self.assertEqual([other.rounds(), other.hours(), hall.rounds()], [2, {"ann": 4, "bob": 7}, 0])
        with self.assertRaises(NothingToUndo):
            hall.undo()


class ReplayedTest(unittest.TestCase):
    def test_form_of_the_log_first(self):
        for value in any_objects() + [[()], [("round",)], [("round", 1, 1)], [("late", "ann")], [("put", "ann")],
                                      [("join", "cy", RISING)], [("leave",)], [("undo",)], [["round", 1]],
                                      (("round", 1),), [("rounds", 1)], [("late", "zed", 1), ("round",)], [("hours",)],
                                      [(["round"], 1)], [(None, 1)], [("leave", "bob", 1)], [("try", [])]]:
            if value not in [[], [("round", -1)]]:
                with self.assertRaises(InvalidLog) as caught:
                    replayed(PAIR, BEGIN, value)
                self.assertIs(caught.exception.value, value)

    def test_errors_of_the_first_change_that_raises_one(self):
        lists = {"some": ["ann"]}
        wrong = [(("round", -1), InvalidCount, -1), (("late", "cy", None), UnknownName, "cy"),
                 (("late", "ann", None), InvalidCount, None), (("put", 5, None), UnknownName, 5),
                 (("put", "ann", 7), InvalidRule, 7), (("join", 5, 5, 5), InvalidName, 5),
                 (("join", "bob", 5, 5), TakenName, "bob"), (("join", "cy", 5, None), InvalidRule, 5),
                 (("join", "cy", RISING, None), InvalidWhole, None), (("leave", lists), UnknownName, lists),
                 (("leave", "ann"), StillNeeded, "ann")]
        for change, error, field in wrong:
            with self.assertRaises(error) as caught:
                replayed(PAIR, BEGIN, [("round", 1), change, ("late", "zed", -1)])
            self.assertIs(caught.exception.value, field)
        with self.assertRaises(InvalidBook):
            replayed(None, None, None)
        with self.assertRaises(InvalidHours):
            replayed(PAIR, {"ann": 1}, None)

    def test_log_is_kept(self):
        log = [("round", 2), ("join", "cy", RISING, 3), ("late", "cy", 4), ("put", "cy", RISING), ("leave", "bob")]
        hall = replayed(book=PAIR, hours=BEGIN, log=log)
        self.assertEqual([hall.log(), hall.rounds(), hall.hours()], [log, 2, {"ann": 4, "cy": 7}])
        log.pop()
        self.assertEqual(len(hall.log()), 5)
        self.assertEqual(replayed(PAIR, BEGIN, []).hours(), BEGIN)
        for _ in range(5):
            hall.undo()
        self.assertEqual(hall.hours(), BEGIN)


class ReachTest(unittest.TestCase):
    def test_against_counts_one_by_one(self):
        rng = seeded(4)
        answers = set()
        for _ in range(60):
            book = random_book(rng, "abcd", 4, 4)
            hall = Hall(book, random_hours(rng, "abcd", 6))
            hall.round(rng.randint(0, 2))
            name, many = rng.choice("abcd"), rng.randint(0, 4)
            hours = hall.hours()
            plain = rounds_by_definition(book, hours, many)
            late = [rounds_by_definition(book, dict(hours, **{name: hours[name] + by}), many)
                    for by in list(range(1, 40)) + [10 ** 6]]
            before = state(hall)
            self.assertEqual(hall.reach(name, many), [other for other in "abcd"
                                                      if any(now[other] != plain[other] for now in late)])
            for other in "abcd":
                unlike = [at for at, now in enumerate(late) if now[other] != plain[other]]
                right = unlike[0] if unlike else None
                answers.add(right is None)
                self.assertEqual(hall.spare(name=name, other=other, many=many), right)
            self.assertEqual(state(hall), before)
        self.assertEqual(answers, {True, False})

    def test_no_round(self):
        hall = Hall(PAIR, BEGIN)
        self.assertEqual([hall.reach("ann", 0), hall.spare("ann", "ann", 0), hall.spare("ann", "bob", 0)], [["ann"], 0, None])


def unlike_books(rng, names, parts=3, waits=2):
    """Two books of the same names that are alike in most things."""
    book = random_book(rng, names, parts, waits)
    other = book
    for name in rng.sample(names, min(len(names), rng.randint(0, 2))):
        rule = book.rule(name)
        leaned, hung = named(rule)
        kind = rng.randint(0, 3)
        if kind == 0 and not hung:
            rule = of_rows(rows(rule))
        elif kind == 1:
            rule = Rule(("rank", 2, [rule.term(), rule.term(), ("of", rng.choice(names), rng.randint(-2, 2))]))
        elif kind == 2:
            rule = Rule(("first", [rule.term(), ("last", [rule.term(), ("of", rng.choice(names), 9)])]))
        else:
            rule = random_rule(rng, parts, names, hung or (), waits)
        try:
            other = other.changed(name, rule)
        except LeafError:
            pass
    return book, other


def by_words(one, other, names, reach=range(-3, 4)):
    """Whether two books are alike as point 145 says it of halls, hours gone through one by one."""
    for name in names:
        rule, twin = one.rule(name), other.rule(name)
        if named(rule)[1] != named(twin)[1]:
            return False
        needed = [sorted((set(named(some)[0]) | set(named(some)[1])) - {name}) for some in (rule, twin)]
        if needed[0] != needed[1]:
            return False
        apart = sorted({("of", each) for some in (rule, twin) for each in named(some)[0]}
                       | {("now", each) for some in (rule, twin) for each in named(some)[1]})
        for chosen in itertools.product(list(reach) + [-10 ** 4, 10 ** 4], repeat=len(apart)):
            hours = dict(zip(apart, chosen))
            if told_apart(rule.term(), hours) != told_apart(twin.term(), hours):
                return False
    return True


def told_apart(term, hours):
    if term[0] in ("of", "now"):
        return hours[term[:2]] + term[2]
    told = sorted(told_apart(inner, hours) for inner in term[-1])
    return told[{"first": 1, "last": len(told)}.get(term[0], term[1]) - 1]


class AlikeTest(unittest.TestCase):
    def test_against_the_words(self):
        rng = seeded(5)
        answers = []
        for _ in range(250):
            names = ["a", "b", "c"][:rng.randint(1, 3)]
            one, other = unlike_books(rng, names, 2, 1)
            hours = random_hours(rng, names)
            halls = [Hall(one, hours), Hall(other, hours)]
            right = by_words(one, other, names, range(-2, 3))
            answers.append(right)
            self.assertIs(alike_halls(*halls), right)
            self.assertIs(same_runs(*halls), alike_books(one, other))
            self.assertTrue(same_runs(*halls) or not right)
            changes = parting_changes(*halls)
            self.assertEqual(changes is None, right)
            if not right:
                self.assertLessEqual(len(changes), 2 * len(names))
                self.assertTrue(check_parting_changes(*halls, changes))
                self.assertTrue(self.part(*halls, changes))
        self.assertEqual(set(answers), {True, False})

    def part(self, one, other, changes):
        """Whether changes part two halls, by the words of point 146."""
        one, other = one.copy(), other.copy()
        for at, change in enumerate(changes):
            made = []
            for hall in [one, other]:
                try:
                    make(hall, change)
                    made.append(True)
                except LeafError:
                    made.append(False)
            if not all(made):
                return any(made) and at == len(changes) - 1
        return one.hours() != other.hours()

    def test_partings_from_hours_far_from_one_another(self):
        rng = seeded(8)
        parted = 0
        while parted < 60:
            names = ["a", "b", "c"][:rng.randint(1, 3)]
            one = random_book(rng, names, 3, 9)
            name = rng.choice(names)
            rule = random_rule(rng, 3, names, named(one.rule(name))[1], 9)
            if named(rule) != named(one.rule(name)):
                continue
            hours = {each: rng.choice([0, 5, -10 ** 29, 10 ** 29]) for each in names}
            halls = [Hall(one, hours), Hall(one.changed(name, rule), hours)]
            changes = parting_changes(*halls)
            self.assertEqual(changes is None, alike_halls(*halls))
            if changes is not None:
                parted += 1
                self.assertLessEqual(len(changes), 2 * len(names))
                self.assertTrue(check_parting_changes(*halls, changes) and self.part(*halls, changes))

    def test_random_changes_never_part_halls_that_are_alike(self):
        rng = seeded(6)
        asked = parted = 0
        while asked < 60 or parted < 60:
            one, other = unlike_books(rng, ["a", "b", "c"], 3, 2)
            halls = [Hall(one, {"a": 0, "b": 1, "c": -2}), Hall(other, {"a": 0, "b": 1, "c": -2})]
            alike = alike_halls(*halls)
            asked += alike
            for _ in range(10):
                changes = [random_change(rng, ["a", "b", "c"]) for _ in range(rng.randint(0, 4))]
                answer = check_parting_changes(*halls, changes)
                self.assertIs(answer, self.part(*halls, changes))
                self.assertFalse(alike and answer)
                parted += answer

    def test_unlike_hours_and_names(self):
        hall = Hall(PAIR, BEGIN)
        for other in [Hall(PAIR, {"ann": 0, "bob": 6}), Hall(PAIR.with_scribe("cy", RISING), {"ann": 0, "bob": 5, "cy": 0}),
                      Hall(PAIR.without("bob"), {"ann": 0})]:
            self.assertEqual([same_runs(hall, other), alike_halls(hall, other), parting_changes(hall, other),
                              check_parting_changes(hall, other, [])], [False, False, [], True])
            self.assertEqual([same_runs(other, hall), alike_halls(other, hall), parting_changes(other, hall)],
                             [False, False, []])
        self.assertFalse(check_parting_changes(hall, hall, []))

    def test_what_was_done_ahead_means_nothing(self):
        hall = Hall(PAIR, {"ann": -2, "bob": 4})
        hall.round()
        other = Hall(PAIR, {"ann": 0, "bob": 5})
        self.assertEqual([same_runs(hall, other), alike_halls(hall, other), parting_changes(hall, other)], [True, True, None])

    def test_kinds_of_partings(self):
        soon, now = Rule(("of", "ann", 1)), Rule(("now", "ann", 0))
        idle = Rule(("first", [("of", "ann", 1), ("last", [("of", "ann", 1), ("of", "cy", 0)])]))
        hung = Rule(("first", [("of", "ann", 1), ("last", [("of", "ann", 1), ("now", "cy", 0)])]))
        own = Rule(("first", [("of", "ann", 1), ("last", [("of", "ann", 1), ("of", "bob", 0)])]))
        made = [Hall(Book([("ann", soon), ("bob", rule), ("cy", soon)]), {"ann": 0, "bob": 0, "cy": 0})
                for rule in [soon, now, idle, hung, own]]
        for one, other in itertools.combinations(made, 2):
            alike = {one, other} == {made[0], made[4]}
            self.assertTrue(same_runs(one, other))
            self.assertIs(alike_halls(one, other), alike)
            self.assertEqual(check_parting_changes(one, other, parting_changes(one, other)), not alike)
        self.assertTrue(check_parting_changes(made[0], made[2], [("leave", "cy")]))
        self.assertTrue(check_parting_changes(made[2], made[3], [("put", "cy", Rule(("now", "bob", 0)))]))
        self.assertTrue(check_parting_changes(made[0], made[1], [("put", "ann", Rule(("of", "ann", 5))), ("round", 1)]))

    def test_checks_of_other_objects(self):
        soon = Rule(("of", "ann", 1))
        one = Hall(Book([("ann", soon), ("bob", Rule(("now", "ann", 0)))]), {"ann": 0, "bob": 0})
        other = Hall(Book([("ann", soon), ("bob", soon)]), {"ann": 0, "bob": 0})
        good = [("put", "ann", RISING), ("round", 1)]
        self.assertTrue(check_parting_changes(one, other, good))
        for value in any_objects() + [tuple(good), good[:1], good + [("round", 0), ("round",)], [good[0], ("round", True)],
                                      [("late", "zed", 1)] + good, good[:1] + [("late", "ann", -1)], [list(good[0]), good[1]],
                                      [("round", 1)], [("undo",)], good[:1] + [("hours",)], [("leave", "ann")]]:
            self.assertIs(check_parting_changes(one, other, value), False)
        self.assertTrue(check_parting_changes(one, other, good + [("late", "bob", 1)]))
        self.assertTrue(check_parting_changes(one, other, [("put", "ann", Rule(("now", "bob", 0)))]))
        self.assertEqual([one.log(), other.log(), one.hours()], [[], [], {"ann": 0, "bob": 0}])

    def test_books_that_are_alike(self):
        rng = seeded(7)
        for _ in range(30):
            book = random_book(rng, "abc", 3, 3)
            hours = random_hours(rng, "abc")
            one, other = Hall(book, hours), Hall(flat(book), hours)
            self.assertTrue(same_runs(one, other))
            for _ in range(5):
                changes = [random_change(rng, ["a"]) for _ in range(3)]
                changes = [change for change in changes if change[0] in ("round", "late") and change[1] in ("a", 0, 1, 2)]
                self.assertFalse(check_parting_changes(one, other, changes))

    def test_wrong_halls(self):
        hall = Hall(PAIR, BEGIN)
        for call, others in [(same_runs, []), (alike_halls, []), (parting_changes, []), (check_parting_changes, [None])]:
            for value in [value for value in any_objects() if not isinstance(value, Hall)]:
                for arguments in [(value, None), (hall, value)]:
                    with self.assertRaises(InvalidHall) as caught:
                        call(*arguments, *others)
                    self.assertIs(caught.exception.value, value)


if __name__ == "__main__":
    unittest.main()
