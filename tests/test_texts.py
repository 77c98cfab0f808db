"""Points 160 to 164: texts, and what they are of."""

import re
import unittest

from leafwaits.books import Book
from leafwaits.errors import InvalidBook, InvalidHours, InvalidRows, InvalidRule, InvalidRules, InvalidSights, InvalidStair
from leafwaits.errors import InvalidText, InvalidWindows
from leafwaits.rules import Rule
from leafwaits.seen import Sights
from leafwaits.stairs import Stair
from leafwaits.texts import book_text, hours_text, read_book, read_hours, read_rows, read_rule, read_run, read_sights
from leafwaits.texts import read_stair, read_windows, rows_text, rule_text, run_text, sights_text, stair_text
from leafwaits.texts import windows_text
from support import any_objects, random_book, random_hours, random_rule, seeded

WORDS = ["first", "last", "rank", "now", "of", "none", "any", "most", "to", "ann", "b", "abcdefgh", "zaz"]
NUMBERS = [0, 1, -1, 7, -30, 10 ** 29, -10 ** 29, 12]
NAME, WHOLE, COUNT = "[a-z]{1,8}", "(?:0|-?[1-9][0-9]*)", "(?:0|[1-9][0-9]*)"
ENTRIES = f"{NAME} {WHOLE}(?:, {NAME} {WHOLE})*"
SPAN = f"(?:({WHOLE}) )?to(?: ({WHOLE}))?"
SIGNS = "afno19 0-:,()\n"


def random_value(rng, kind):
    names = sorted(rng.sample(WORDS, rng.randint(1, 3)))
    if kind == "rule":
        return random_rule(rng, 6, names, names, 12)
    if kind == "book":
        return random_book(rng, names, 4, 12)
    if kind == "hours":
        return {name: rng.choice(NUMBERS) for name in names[rng.randint(0, 1):]}
    if kind == "run":
        return [random_value(rng, "hours") for _ in range(rng.randint(0, 3))]
    if kind == "rows":
        return [sorted({name: rng.choice(NUMBERS) for name in rng.sample(WORDS, rng.randint(1, 3))}.items())
                for _ in range(rng.randint(1, 3))]
    if kind == "windows":
        return {(rng.choice([0, 1, 2, 10 ** 9]), name): random_span(rng) for name in names[rng.randint(0, 1):]}
    if kind == "stair":
        return Stair(rng.choice(NUMBERS), sorted(rng.sample([0, 1, 2, 9, 10, 10 ** 29], rng.randint(0, 4))))
    seen = [({name: rng.choice(NUMBERS) for name in names},) + random_span(rng) for _ in range(rng.randint(0, 2))]
    return Sights(names, rng.choice([None, 0, 5, 10 ** 29]), seen)


def random_span(rng):
    low, high = sorted(rng.choices(NUMBERS, k=2))
    return (rng.choice([low, None]), rng.choice([high, None]))


def is_rule_text(text):
    if re.fullmatch(f"(?:now )?{NAME} {WHOLE}", text):
        return True
    found = re.fullmatch(r"(?:first|last|rank ([1-9][0-9]*))\((.*)\)", text)
    if found is None:
        return False
    terms, deep = [""], 0
    for piece in re.split("(, |[()])", found[2]):
        deep += {"(": 1, ")": -1}.get(piece, 0)
        if piece == ", " and deep == 0:
            terms.append("")
        else:
            terms[-1] += piece
    return all(map(is_rule_text, terms)) and (found[1] is None or int(found[1]) <= len(terms))


def is_book_text(text):
    lines = [line.split(": ", 1) for line in text.split("\n")]
    if not all(len(line) == 2 and re.fullmatch(NAME, line[0]) and is_rule_text(line[1]) for line in lines):
        return False
    names = [name for name, _ in lines]
    there = [re.findall(f"(now )?({NAME}) {WHOLE}(?![0-9]*\\()", line[1]) for line in lines]
    if names != sorted(set(names)) or not all(name in names for found in there for _, name in found):
        return False
    hung = {name: {other for now, other in found if now} for name, found in zip(names, there)}
    for _ in names:
        hung = {name: others for name, others in hung.items()}
        hung = {name: {other for other in others if hung[other]} for name, others in hung.items()}
    return not any(hung.values())


def ascending(names):
    return list(names) == sorted(set(names))


def is_hours_text(text):
    return text == "none" or (re.fullmatch(ENTRIES, text) is not None and ascending(re.findall("[a-z]+", text)))


def is_run_text(text):
    return text == "" or all(map(is_hours_text, text.split("\n")))


def is_rows_text(text):
    return all(line != "none" and is_hours_text(line) for line in text.split("\n"))


def is_right_span(found):
    return found is not None and (found[1] is None or found[2] is None or int(found[1]) <= int(found[2]))


def is_windows_text(text):
    found = [re.fullmatch(f"{SPAN}: ({COUNT}) ({NAME})", line) for line in text.split("\n")] if text else []
    return all(map(is_right_span, found)) and ascending([(int(each[3]), each[4]) for each in found])


def is_stair_text(text):
    return (re.fullmatch(f"{WHOLE}(: {COUNT}(, {COUNT})*)?", text) is not None
            and ascending(list(map(int, re.findall("[0-9]+", text.partition(": ")[2])))))


def is_sights_text(text):
    lines = text.split("\n")
    head = re.fullmatch(f"(?:any|most {COUNT}): ({NAME}(?:, {NAME})*)", lines[0])
    if head is None or not ascending(head[1].split(", ")):
        return False
    found = [re.fullmatch(f"{SPAN}: ({ENTRIES})", line) for line in lines[1:]]
    return all(map(is_right_span, found)) and all(re.findall("[a-z]+", each[3]) == head[1].split(", ") for each in found)


KINDS = {"rule": (rule_text, read_rule, is_rule_text), "book": (book_text, read_book, is_book_text),
         "hours": (hours_text, read_hours, is_hours_text), "run": (run_text, read_run, is_run_text),
         "rows": (rows_text, read_rows, is_rows_text), "windows": (windows_text, read_windows, is_windows_text),
         "stair": (stair_text, read_stair, is_stair_text), "sights": (sights_text, read_sights, is_sights_text)}


class TextsTest(unittest.TestCase):
    def test_each_text_is_read_as_what_it_is_of(self):
        for kind, (written, read, is_right) in KINDS.items():
            rng = seeded(1)
            for _ in range(150):
                value = random_value(rng, kind)
                text = written(value)
                self.assertTrue(is_right(text), (kind, text))
                self.assertEqual(read(text), value)
                self.assertEqual(read(text=text), value)
                self.assertEqual(written(read(text)), text)

    def test_one_sign_more_less_or_another(self):
        for kind, (written, read, is_right) in KINDS.items():
            rng = seeded(2)
            answers = set()
            for _ in range(40):
                text = written(random_value(rng, kind))
                others = [text[:at] + text[at + 1:] for at in range(len(text))]
                for sign in SIGNS:
                    places = rng.sample(range(len(text) + 1), min(len(text) + 1, 12))
                    others += [text[:at] + sign + text[at:] for at in places]
                    others += [text[:at] + sign + text[at + 1:] for at in places]
                for other in others:
                    answers.add(self.check_read(kind, other))
            self.assertEqual(answers, {True, False})

    def check_read(self, kind, text):
        written, read, is_right = KINDS[kind]
        if is_right(text):
            self.assertEqual(written(read(text)), text)
            return True
        with self.assertRaises(InvalidText, msg=(kind, text)) as caught:
            read(text)
        self.assertIs(caught.exception.value, text)
        return False

    def test_lines_in_another_order(self):
        for kind in KINDS:
            rng = seeded(3)
            for _ in range(60):
                text = KINDS[kind][0](random_value(rng, kind))
                for sign in ["\n", ", ", ": ", " "]:
                    pieces = text.split(sign)
                    rng.shuffle(pieces)
                    self.check_read(kind, sign.join(pieces))
                    self.check_read(kind, sign.join(pieces + pieces[:1]))

    def test_other_objects_and_texts(self):
        wrong = ["", " ", "\n", "ann", "ann 1\n", "\nann 1", "ann  1", "ann 01", "ann +1", "ann -0", "ann 1,bob 2", "Ann 1",
                 "abcdefghi 1", "first()", "first(ann 1", "first(ann 1))", "first (ann 1)", "rank 0(ann 1)", "rank 2(ann 1)",
                 "rank 1 (ann 1)", "now ann", "of ann 1", "none\n", "ann: ann 1\n", "ann: bob 1", "ann: now ann 1", "ann:ann 1",
                 "to", "to: 0", "to: ann", "1 to 0: 0 ann", "to to: 0 ann", "1: 0 ann", "to 1: -1 ann", "1 2 to: 0 ann",
                 "to 1 2: 0 ann", "5:", "5: ", "5: 1,2", "5: 2, 1", "5: -1", "5: 1, 1", "any:", "any: ", "any: b, a", "most: a",
                 "most -1: a", "most 1 a", "any 1: a", "1: a", "any: a\n", "any: a\nto: b 1", "any: a\nto: none", "none",
                 "ann: ann 1\nbob: now ann 1\ncy: now bob 1\ndan: now cy 1", "ann: now bob 0\nbob: now ann 0", "ann \u00b2"]
        for kind, (written, read, is_right) in KINDS.items():
            for text in wrong:
                self.check_read(kind, text)
            for value in any_objects():
                if not isinstance(value, str):
                    with self.assertRaises(InvalidText) as caught:
                        read(value)
                    self.assertIs(caught.exception.value, value)

    def test_names_that_look_like_words(self):
        term = ("rank", 2, [("now", "now", 0), ("of", "now", -3), ("of", "rank", 2), ("first", [("of", "first", 10 ** 30 - 1)]),
                            ("last", [("now", "last", -1), ("of", "of", 0)])])
        text = "rank 2(now now 0, now -3, rank 2, first(first 999999999999999999999999999999), last(now last -1, of 0))"
        self.assertEqual([rule_text(Rule(term)), read_rule(text).term()], [text, term])
        for name in WORDS:
            for word in ["of", "now"]:
                self.assertEqual(read_rule(rule_text(Rule((word, name, -5)))).term(), (word, name, -5))
            self.assertEqual(read_hours(hours_text({name: 0})), {name: 0})
            self.assertEqual(read_windows(windows_text({(3, name): (None, None)})), {(3, name): (None, None)})
            self.assertEqual(sights_text(read_sights(f"any: {name}\nto: {name} 1")), f"any: {name}\nto: {name} 1")
        self.assertEqual(read_sights("most 1: any, most, to").names(), ["any", "most", "to"])
        self.assertEqual(read_hours("none 5"), {"none": 5})

    def test_deep_terms_and_long_lines(self):
        term = ("of", "a", 0)
        for at in range(39):
            term = [("first", [term]), ("last", [term, ("now", "b", at)]), ("rank", 1, [term])][at % 3]
        self.assertEqual(read_rule(rule_text(Rule(term))).term(), term)
        text = "first(" + ", ".join(["abcdefgh 123"] * 28) + ")"
        self.assertEqual(rule_text(read_rule(text)), text)
        every = [random_hours(seeded(4), ["abcdefgh", "b", "cc"], 10 ** 29)] * 60
        self.assertEqual(read_run(run_text(every)), every)

    def test_written_things(self):
        self.assertEqual([hours_text({}), run_text([]), windows_text({}), run_text([{}, {"b": 1, "a": 2}])],
                         ["none", "", "", "none\na 2, b 1"])
        self.assertEqual([read_hours("none"), read_run(""), read_windows(""), read_run("none\na 2, b 1")],
                         [{}, [], {}, [{}, {"a": 2, "b": 1}]])
        windows = {(10, "a"): (None, None), (2, "b"): (-1, None), (2, "a"): (None, 0), (0, "z"): (-5, -5)}
        self.assertEqual(windows_text(windows), "-5 to -5: 0 z\nto 0: 2 a\n-1 to: 2 b\nto: 10 a")
        self.assertEqual(list(read_windows(windows_text(windows))), sorted(windows))
        self.assertEqual([stair_text(Stair(-3, [])), stair_text(Stair(0, [0, 10 ** 29]))], ["-3", f"0: 0, {10 ** 29}"])
        self.assertEqual(sights_text(Sights(["a", "b"], 0, [({"b": -1, "a": 0}, None, -2)])), "most 0: a, b\nto -2: a 0, b -1")
        self.assertEqual(rows_text([[("b", 1)], [("a", 1)]]), "b 1\na 1")

    def test_what_is_read_is_new_each_time(self):
        for text, read in [("a 1", read_hours), ("a 1", read_run), ("a 1", read_rows), ("to: 0 a", read_windows)]:
            value = read(text)
            first = repr(value)
            value.clear()
            self.assertEqual(repr(read(text)), first)


class WrongValuesTest(unittest.TestCase):
    def check(self, error, call, value):
        with self.assertRaises(error) as caught:
            call(value)
        self.assertIs(caught.exception.value, value)

    def test_each_kind(self):
        for value in any_objects():
            is_hours = isinstance(value, dict) and all(isinstance(key, str) and re.fullmatch(NAME, key) and type(hour) is int
                                                       for key, hour in value.items())
            if not isinstance(value, Rule):
                self.check(InvalidRule, rule_text, value)
            if not isinstance(value, Book):
                self.check(InvalidBook, book_text, value)
            if not is_hours:
                self.check(InvalidHours, hours_text, value)
                self.check(InvalidHours, run_text, [{}, value])
            if value != []:
                self.check(InvalidHours, run_text, value)
            if value != [[("ann", 1)]]:
                self.check(InvalidRows, rows_text, value)
            if not isinstance(value, Stair):
                self.check(InvalidStair, stair_text, value)
            if not isinstance(value, Sights):
                self.check(InvalidSights, sights_text, value)
        for value in [[[]], [[("b", 1), ("a", 1)]], [[("a", 1), ("a", 2)]], [[("a", 1.5)]][:0], [[("a", True)]], [("a", 1)]]:
            self.check(InvalidRows, rows_text, value)

    def test_windows(self):
        self.assertEqual(windows_text({(7, "zed"): (1, 2), (3, "ann"): (1, 1)}), "1 to 1: 3 ann\n1 to 2: 7 zed")
        for value in [None, [], {"ann": (1, 2)}, {(0,): (1, 2)}, {(0, "ann", 1): (1, 2)}, {(-1, "ann"): (1, 2)},
                      {(True, "ann"): (1, 2)}, {(0, "Ann"): (1, 2)}, {(0, "ann"): [1, 2]}, {(0, "ann"): (1,)},
                      {(0, "ann"): (2, 1)}, {(0, "ann"): (True, 2)}, {(0, "ann"): None}, {0: (1, 2)}, {("ann", 0): (1, 2)}]:
            self.check(InvalidWindows, windows_text, value)

    def test_books_with_rings_have_no_text(self):
        ring = [("ann", Rule(("now", "bob", 0))), ("bob", Rule(("now", "ann", 0)))]
        with self.assertRaises(InvalidRules):
            Book(ring)
        self.check(InvalidText, read_book, "ann: now bob 0\nbob: now ann 0")


if __name__ == "__main__":
    unittest.main()
