"""Texts of rules, books, hours, runs, rows, windows, stairs and sights, and what these texts are of."""

from leafwaits.books import Book, need_book, rules_of
from leafwaits.checks import is_hours, is_row_list, is_windows
from leafwaits.errors import InvalidHours, InvalidRows, InvalidText, InvalidWindows, LeafError
from leafwaits.reading import entries_in, span_in, term_in, whole_in, wholes_in
from leafwaits.rules import Rule, need_rule
from leafwaits.seen import Sights, need_sights
from leafwaits.stairs import Stair, need_stair
from leafwaits.terms import is_part, is_term


def rule_text(rule):
    """The text of a rule."""
    need_rule(rule)
    return _term_text(rule.term())


def _term_text(term):
    if is_part(term):
        word, name, wait = term
        return f"{name} {wait}" if word == "of" else f"now {name} {wait}"
    terms = ", ".join([_term_text(inner) for inner in term[-1]])
    return f"rank {term[1]}({terms})" if term[0] == "rank" else f"{term[0]}({terms})"


def book_text(book):
    """The text of a book."""
    need_book(book)
    return "\n".join([f"{name}: {rule_text(rule)}" for name, rule in rules_of(book)])


def hours_text(hours):
    """The text of hours."""
    if not is_hours(hours, []):
        raise InvalidHours(hours)
    return _entries_text(sorted(hours.items())) if hours else "none"


def _entries_text(entries):
    return ", ".join([f"{name} {number}" for name, number in entries])


def run_text(every):
    """The text of a run."""
    if not isinstance(every, list) or not all([is_hours(hours, []) for hours in every]):
        raise InvalidHours(every)
    return "\n".join([hours_text(hours) for hours in every])


def rows_text(some):
    """The text of rows."""
    if not is_row_list(some):
        raise InvalidRows(some)
    return "\n".join([_entries_text(row) for row in some])


def windows_text(windows):
    """The text of windows, of whatever names and rounds."""
    if not is_windows(windows):
        raise InvalidWindows(windows)
    return "\n".join([f"{_span_text(windows[key])}: {key[0]} {key[1]}" for key in sorted(windows)])


def _span_text(span):
    low, high = span
    return " ".join([str(end) for end in (low, "to", high) if end is not None])


def stair_text(stair):
    """The text of a stair."""
    need_stair(stair)
    corners = ", ".join([str(corner) for corner in stair.corners])
    return f"{stair.begin}: {corners}" if corners else str(stair.begin)


def sights_text(sights):
    """The text of sights."""
    need_sights(sights)
    most = "any" if sights.most() is None else f"most {sights.most()}"
    names = ", ".join(sights.names())
    lines = [f"{_span_text((low, high))}: {hours_text(hours)}" for hours, low, high in sights.rows()]
    return "\n".join([f"{most}: {names}"] + lines)


def read_rule(text):
    """The rule that has a text."""
    rule = rule_in(text) if isinstance(text, str) else None
    if rule is None or rule_text(rule) != text:
        raise InvalidText(text)
    return rule


def rule_in(text):
    """The rule that a text may be of, None if it is surely of none."""
    term = term_in(text)
    return Rule(term) if term is not None and is_term(term) else None


def read_book(text):
    """The book that has a text."""
    book = _book_in(text) if isinstance(text, str) else None
    if book is None or book_text(book) != text:
        raise InvalidText(text)
    return book


def _book_in(text):
    pairs = [line.partition(": ") for line in text.split("\n")]
    try:
        return Book([(name, rule_in(rule)) for name, _, rule in pairs])
    except LeafError:
        return None


def read_hours(text):
    """The hours that have a text."""
    hours = _hours_in(text) if isinstance(text, str) else None
    if hours is None or hours_text(hours) != text:
        raise InvalidText(text)
    return hours


def _hours_in(text):
    entries = [] if text == "none" else entries_in(text)
    return None if entries is None else dict(entries)


def read_run(text):
    """The run that has a text."""
    every = _run_in(text) if isinstance(text, str) else None
    if every is None or run_text(every) != text:
        raise InvalidText(text)
    return every


def _run_in(text):
    every = [_hours_in(line) for line in text.split("\n")] if text else []
    return None if None in every else every


def read_rows(text):
    """The rows that have a text."""
    some = [entries_in(line) for line in text.split("\n")] if isinstance(text, str) else None
    if not is_row_list(some) or rows_text(some) != text:
        raise InvalidText(text)
    return some


def read_windows(text):
    """The windows that have a text, of whatever names and rounds."""
    windows = _windows_in(text) if isinstance(text, str) else None
    if not is_windows(windows) or windows_text(windows) != text:
        raise InvalidText(text)
    return windows


def _windows_in(text):
    windows = {}
    for line in text.split("\n") if text else []:
        span, _, key = line.partition(": ")
        many, _, name = key.partition(" ")
        windows[(whole_in(many), name)] = span_in(span)
    return windows


def read_stair(text):
    """The stair that has a text."""
    stair = _stair_in(text) if isinstance(text, str) else None
    if stair is None or stair_text(stair) != text:
        raise InvalidText(text)
    return stair


def _stair_in(text):
    begin, colon, corners = text.partition(": ")
    try:
        return Stair(whole_in(begin), wholes_in(corners) if colon else [])
    except LeafError:
        return None


def read_sights(text):
    """The sights that have a text."""
    sights = _sights_in(text) if isinstance(text, str) else None
    if sights is None or sights_text(sights) != text:
        raise InvalidText(text)
    return sights


def _sights_in(text):
    lines = text.split("\n")
    most, _, names = lines[0].partition(": ")
    bound = None if most == "any" else whole_in(most.removeprefix("most "))
    if (bound is None) != (most == "any"):
        return None
    rows = []
    for line in lines[1:]:
        span, _, hours = line.partition(": ")
        if span_in(span) is None:
            return None
        low, high = span_in(span)
        rows.append((_hours_in(hours), low, high))
    try:
        return Sights(names.split(", "), bound, rows)
    except LeafError:
        return None
