"""Points 150 to 154: scripts, what is said where they are played, their texts, and which of them end alike."""

import itertools
import unittest

from leafwaits.books import Book
from leafwaits.errors import InvalidBook, InvalidHall, InvalidScript, InvalidText, LeafError
from leafwaits.live import Hall, alike_halls
from leafwaits.rules import Rule
from leafwaits.scripts import check_parting_begin, parting_begin, play, read_script, refused, said_text, same_end
from leafwaits.scripts import script_text, trimmed
from leafwaits.texts import hours_text, rule_text
from support import any_objects, make, random_book, random_hours, random_rule, seeded, state

RISING = Rule(("of", "ann", 2))
PAIR = Book([("ann", RISING), ("bob", Rule(("last", [("of", "ann", 1), ("of", "bob", 1)])))])
WRONG = [None, (), {}, "round 1", ("round", 1), [["round", 1]], [("round",)], [("round", -1)], [("round", True)],
         [("round", 1, 1)], [("late", "ann")], [("late", "ann", -1)], [("late", "Ann", 1)], [("late", 1, "ann")],
         [("put", "ann", ("of", "ann", 1))], [("put", "", RISING)], [("put", "ann")], [("join", "ann", RISING)],
         [("join", "ann", 1, RISING)], [("join", "ann", RISING, True)], [("leave",)], [("leave", None)], [("undo", 1)],
         [("redo", ())], [("hours", "ann")], [("try",)], [("try", ())], [("try", [("round", "1")])], [("try", [None])],
         [()], [("end",)], [("Round", 1)], [(["round"], 1)], [("round", 1), None], [("try", [("try", [("undo", 1)])])]]


def random_script(rng, names, many=6, deep=1, waits=3):
    script = []
    for _ in range(rng.randint(0, many)):
        word = rng.choice(["round", "late", "late", "put", "join", "leave", "undo", "redo", "hours", "try"])
        name = rng.choice(names + ["zed"])
        rule = random_rule(rng, 3, names, names[:1] if rng.random() < 0.3 else (), waits)
        things = {"round": (rng.randint(0, 2),), "late": (name, rng.randint(0, 4)), "put": (name, rule),
                  "join": (rng.choice(["yan", "zed"]), rule, rng.randint(-3, 3)), "leave": (name,)}
        if word != "try":
            script.append((word,) + things.get(word, ()))
        elif deep:
            script.append(("try", random_script(rng, names, 3, deep - 1, waits)))
    return script


def played_by_words(hall, script):
    """What is said by the words of point 151."""
    said = []
    for command in script:
        if command[0] == "hours":
            said.append(("hours", hall.hours()))
        elif command[0] == "try":
            with hall.trial():
                said.append(("tried", played_by_words(hall, command[1])))
        else:
            try:
                answer = make(hall, command)
                said.append(("passed", answer) if command[0] == "round" else ("done",))
            except LeafError as error:
                said.append(("refused", type(error).__name__))
    return said


class PlayTest(unittest.TestCase):
    def test_command_by_command(self):
        rng = seeded(1)
        words = {}
        for _ in range(150):
            book, hours = random_book(rng, ["ann", "bob", "cy"], 3, 3), random_hours(rng, ["ann", "bob", "cy"])
            script = random_script(rng, ["ann", "bob", "cy"], 10, 3)
            hall, other = Hall(book, hours), Hall(book, hours)
            said = play(hall, script)
            self.assertEqual(said, played_by_words(other, script))
            self.assertEqual(state(hall), state(other))
            self.assertEqual(len(said), len(script))
            words.update({item[1]: True for item in said if item[0] == "refused"})
            self.assertEqual(refused(book, script), [at for at, item in enumerate(said) if item[0] == "refused"])
            self.assertEqual(play(Hall(book, hours), hall.log()).count(("done",)) +
                             sum(item[0] == "passed" for item in play(Hall(book, hours), hall.log())), len(hall.log()))
        self.assertEqual(sorted(words), ["InvalidRule", "NothingToRedo", "NothingToUndo", "StillNeeded", "TakenName",
                                         "UnknownName"])

    def test_tries(self):
        hall = Hall(PAIR, {"ann": 0, "bob": 5})
        script = [("late", "ann", 1), ("try", [("undo",), ("try", [("round", 2), ("leave", "ann")]), ("hours",), ("undo",)]),
                  ("try", []), ("hours",)]
        said = [("done",), ("tried", [("done",), ("tried", [("passed", {"ann": 4, "bob": 7}), ("refused", "StillNeeded")]),
                                      ("hours", {"ann": 0, "bob": 5}), ("refused", "NothingToUndo")]),
                ("tried", []), ("hours", {"ann": 1, "bob": 5})]
        self.assertEqual(play(hall=hall, script=script), said)
        self.assertEqual([hall.log(), hall.rounds(), play(hall, [])], [[("late", "ann", 1)], 0, []])
        self.assertEqual(said_text(said).split("\n"), [
            "done", "tried", "  done", "  tried", "    passed ann 4, bob 7", "    refused StillNeeded",
            "  hours ann 0, bob 5", "  refused NothingToUndo", "tried", "hours ann 1, bob 5"])
        self.assertEqual([said_text(said=[]), said_text([("tried", [])])], ["", "tried"])

    def test_what_is_said_can_be_changed(self):
        hall = Hall(PAIR, {"ann": 0, "bob": 5})
        play(hall, [("hours",)])[0][1]["ann"] = 99
        play(hall, [("round", 0)])[0][1].clear()
        self.assertEqual(hall.hours(), {"ann": 0, "bob": 5})

    def test_wrong_arguments(self):
        hall = Hall(PAIR, {"ann": 0, "bob": 5})
        for value in [value for value in any_objects() if not isinstance(value, Hall)]:
            with self.assertRaises(InvalidHall) as caught:
                play(value, None)
            self.assertIs(caught.exception.value, value)
        for value in WRONG + [value for value in any_objects() if value != []]:
            with self.assertRaises(InvalidScript) as caught:
                play(hall, value)
            self.assertIs(caught.exception.value, value)
        self.assertEqual(hall.log(), [])


class TextTest(unittest.TestCase):
    def test_each_text_is_read_as_what_it_is_of(self):
        rng = seeded(2)
        for _ in range(150):
            script = random_script(rng, ["end", "put", "try", "ann"], 8, 3)
            text = script_text(script)
            self.assertEqual(text, "\n".join(self.lines_of(script)))
            self.assertEqual(read_script(text), script)
            self.assertEqual(read_script(text=text), script)

    def lines_of(self, script):
        """By the words of point 152."""
        lines = []
        for word, *things in script:
            if word == "try":
                lines += ["try"] + ["  " + line for line in self.lines_of(things[0])] + ["end"]
            elif word == "put":
                lines.append("put " + things[0] + ": " + rule_text(things[1]))
            elif word == "join":
                lines.append("join " + things[0] + " " + str(things[2]) + ": " + rule_text(things[1]))
            else:
                lines.append(" ".join([word] + [str(thing) for thing in things]))
        return lines

    def test_one_sign_more_less_or_another(self):
        rng = seeded(3)
        answers = set()
        for _ in range(60):
            text = script_text(random_script(rng, ["ann", "try", "end"], 5, 2))
            others = [text[:at] + text[at + 1:] for at in range(len(text))]
            others += [text[:at] + sign + text[at + more:] for sign in "adn1 0-:\n(" for more in (0, 1)
                       for at in rng.sample(range(len(text) + 1), min(12, len(text) + 1))]
            for other in others:
                try:
                    script = read_script(other)
                    answers.add(True)
                    self.assertEqual("\n".join(self.lines_of(script)), other)
                except InvalidText as error:
                    answers.add(False)
                    self.assertIs(error.value, other)
        self.assertEqual(answers, {True, False})

    def test_other_texts_and_objects(self):
        good = ["", "undo", "round 0", f"round {10 ** 29}", "late ann 1", "leave leave", "try\nend", "try\n  try\n  end\nend",
                "try\n  hours\nend\nhours", "put put: now put 0", "join hours -5: first(ann 1)"]
        for text in good:
            self.assertEqual(script_text(read_script(text)), text)
        wrong = ["\n", " undo", "undo ", "undo\n", "\nundo", "undo\n\nundo", "round", "round -1", "round 01", "round +1", "round  1",
                 "round 1 1", "late ann", "late 1 ann", "late ann 01", "late ann -1", "leave", "leave ann bob", "leave ann:", "Undo",
                 "try", "end", "try\nundo\nend", "try\n undo\nend", "try\n   undo\nend", "try\n  undo", "try\n  end\nend",
                 "  undo", "try \nend", "try\nend ", "try end", "put ann", "put ann:", "put ann: ", "put ann:ann 1", "put ann ann 1",
                 "put ann: ann 01", "put ann 1: ann 1", "put: ann 1", "join ann: ann 1", "join ann 1:ann 1", "join ann -0: ann 1",
                 "join ann 1", "join 1 ann: ann 1", "join ann 1 2: ann 1", "hours ann 1", "redo 1", "try\n  undo\nend\nend", "undo: ann 1"]
        for value in wrong + [value for value in any_objects() if value != ""]:
            with self.assertRaises(InvalidText, msg=value) as caught:
                read_script(value)
            self.assertIs(caught.exception.value, value)
        for value in WRONG + [value for value in any_objects() if value != []]:
            with self.assertRaises(InvalidScript) as caught:
                script_text(value)
            self.assertIs(caught.exception.value, value)

    def test_text_of_what_was_said(self):
        rng = seeded(4)
        for _ in range(60):
            book = random_book(rng, ["ann", "bob"], 3, 3)
            said = play(Hall(book, random_hours(rng, ["ann", "bob"])), random_script(rng, ["ann", "bob"], 8, 3))
            self.assertEqual(said_text(said), "\n".join(self.lines_of_said(said)))

    def lines_of_said(self, said):
        lines = []
        for word, *things in said:
            if word == "tried":
                lines += ["tried"] + ["  " + line for line in self.lines_of_said(things[0])]
            else:
                lines.append(" ".join([word] + [thing if word == "refused" else hours_text(thing) for thing in things]))
        return lines


class EndTest(unittest.TestCase):
    def end_unlike(self, book, one, other, hours):
        halls = [Hall(book, hours), Hall(book, hours)]
        play(halls[0], one)
        play(halls[1], other)
        return not alike_halls(*halls)

    def test_against_hours_one_by_one(self):
        rng = seeded(5)
        answers = {}
        for number in range(400):
            names = ["ann", "bob"][:rng.randint(1, 2)]
            book = random_book(rng, names, 3, 1)
            one = random_script(rng, names, 5, 1, 1)
            other = self.near(rng, names, one)
            if number % 2:
                names = ["ann", "bob"]
                book = Book([(name, Rule((rng.choice(["first", "last"]), [("of", "ann", rng.randint(-1, 1)), ("of", "bob", 0)])))
                             for name in names])
                one = [rng.choice([("late", rng.choice(names), rng.randint(0, 2)), ("round", 1)]) for _ in range(4)]
                other = rng.sample(one, 4)
            every = [dict(zip(names, chosen)) for chosen in itertools.product([-50, -2, -1, 0, 1, 2, 50], repeat=len(names))]
            unlike = [hours for hours in every if self.end_unlike(book, one, other, hours)]
            hours = parting_begin(book, one, other)
            kind = "never" if not unlike else "always" if len(unlike) == len(every) else "some"
            answers[kind] = answers.get(kind, 0) + 1
            self.assertEqual(hours is None, not unlike)
            self.assertIs(same_end(book, one, other), not unlike)
            if unlike:
                self.assertEqual(sorted(hours), names)
                self.assertTrue(self.end_unlike(book, one, other, hours))
                self.assertTrue(check_parting_begin(book, one, other, hours))
            for hours in rng.sample(every, 3):
                self.assertIs(check_parting_begin(book, one, other, hours), hours in unlike)
        self.assertTrue(all(answers[kind] > 20 for kind in ["never", "always", "some"]), answers)

    def near(self, rng, names, script):
        """A script that differs from another one in few commands, or in their order."""
        other = list(script)
        for _ in range(rng.randint(1, 2)):
            kind = rng.randint(0, 3)
            if kind == 0 and other:
                other.pop(rng.randrange(len(other)))
            elif kind == 1:
                other.insert(rng.randint(0, len(other)), rng.choice([("late", "ann", 1), ("late", names[-1], 0), ("round", 0),
                                                                     ("hours",), ("undo",), ("redo",)]))
            elif kind == 2:
                rng.shuffle(other)
            else:
                other = other + random_script(rng, names, 2, 0, 1)
        return other

    def test_scribes_who_join(self):
        book = Book([("ann", Rule(("last", [("of", "ann", 1)])))])
        early, late = [("join", "cy", RISING, -5)], [("join", "cy", RISING, -4)]
        self.assertEqual([same_end(book, early, late), same_end(book, early, early + [("hours",)])], [False, True])
        go = Rule(("last", [("of", "ann", 0), ("of", "cy", 0)]))
        met = [("put", "ann", go), ("round", 1), ("leave", "cy")]
        one = early + met[:1] + [("put", "cy", Rule(("of", "cy", 0)))] + met[1:]
        other = late + met[:1] + [("put", "cy", Rule(("of", "cy", 0)))] + met[1:]
        self.assertEqual(refused(book, one), [4])
        one, other = ([command for command in script if command[0] != "leave"] +
                      [("put", "ann", RISING), ("leave", "cy")] for script in (one, other))
        self.assertEqual(refused(book, one), [])
        hours = parting_begin(book, one, other)
        self.assertLess(hours["ann"], -4)
        self.assertTrue(check_parting_begin(book, one, other, hours))
        self.assertFalse(check_parting_begin(book, one, other, {"ann": -4}))

    def test_ends_with_unlike_rules_are_unlike_from_everywhere(self):
        one, other = [("put", "ann", RISING)], [("put", "ann", Rule(("of", "ann", 3)))]
        self.assertEqual(sorted(parting_begin(PAIR, one, other)), ["ann", "bob"])
        for hours in [{"ann": 1, "bob": 2}, {"ann": -10 ** 29, "bob": 0}]:
            self.assertTrue(check_parting_begin(PAIR, one, other, hours))
        self.assertTrue(same_end(PAIR, one, [("put", "ann", Rule(("first", [("of", "ann", 2), ("of", "ann", 3)])))]))
        self.assertFalse(same_end(PAIR, [], [("leave", "bob")]))
        self.assertTrue(same_end(PAIR, [], [("leave", "ann"), ("undo",), ("late", "zed", 3), ("try", [("round", 3)])]))

    def test_checks_of_other_objects(self):
        one, other = [("late", "ann", 1)], []
        right = {"ann": 1, "bob": 5}
        self.assertTrue(check_parting_begin(book=PAIR, one=one, other=other, value=right))
        for value in any_objects() + [dict(right, cy=1), {"ann": 1}, {"ann": 1, "bob": True}, {"ann": 1, "Bob": 1}]:
            if value != {"ann": 1, "bob": 5}:
                self.assertIs(check_parting_begin(PAIR, one, other, value), False)

    def test_wrong_arguments(self):
        calls = [(refused, 1, []), (trimmed, 1, []), (same_end, 2, []), (parting_begin, 2, []), (check_parting_begin, 2, [None])]
        for call, scripts, others in calls:
            for value in [None, [], {}, PAIR.names(), Hall(PAIR, {"ann": 0, "bob": 0})]:
                with self.assertRaises(InvalidBook) as caught:
                    call(value, *[None] * scripts, *others)
                self.assertIs(caught.exception.value, value)
            for value in WRONG:
                for at in range(scripts):
                    with self.assertRaises(InvalidScript) as caught:
                        call(PAIR, *([[]] * at + [value] + [None] * (scripts - at - 1)), *others)
                    self.assertIs(caught.exception.value, value)


class TrimmedTest(unittest.TestCase):
    def test_by_its_words(self):
        rng = seeded(6)
        shorter = 0
        for _ in range(150):
            names = ["ann", "bob"]
            book = random_book(rng, names, 2, 2)
            script = random_script(rng, names, 7, 1, 2)
            left = list(script)
            for at in range(len(script) - 1, -1, -1):
                if same_end(book, left[:at] + left[at + 1:], script):
                    del left[at]
            kept = list(script)
            self.assertEqual(trimmed(book, script), left)
            self.assertEqual(script, kept)
            self.assertTrue(same_end(book, left, script))
            self.assertFalse(any(command[0] in ("try", "hours") for command in left))
            shorter += len(left) < len(script)
        self.assertGreater(shorter, 60)

    def test_from_the_last_one_on(self):
        twice = [("late", "ann", 2), ("late", "ann", 2), ("undo",)]
        self.assertEqual(trimmed(PAIR, twice), twice)
        self.assertEqual(trimmed(PAIR, [("late", "ann", 0)] + twice[:1] + [("late", "ann", 0)]), twice[:1])
        self.assertEqual(trimmed(PAIR, [("leave", "bob"), ("undo",)]), [("undo",)])
        self.assertEqual(trimmed(book=PAIR, script=[]), [])
        script = [("try", [("late", "ann", 1)]), ("round", 1)]
        self.assertEqual(trimmed(PAIR, script), [("round", 1)])
        trimmed(PAIR, script).clear()
        self.assertEqual(trimmed(PAIR, script), [("round", 1)])


if __name__ == "__main__":
    unittest.main()
