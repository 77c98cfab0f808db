"""Commands of scripts, and their texts line by line."""

from leafwaits.checks import is_count, is_name, is_whole
from leafwaits.reading import whole_in
from leafwaits.rules import Rule
from leafwaits.texts import rule_in, rule_text

# How many things stand behind the word of each command.
COMMANDS = {"round": 1, "late": 2, "put": 2, "join": 3, "leave": 1, "undo": 0, "redo": 0, "hours": 0, "try": 1}


def is_script(value):
    """Whether an object is a list of commands."""
    return isinstance(value, list) and all([_is_command(command) for command in value])


def _is_command(value):
    if not isinstance(value, tuple) or not value or not isinstance(value[0], str):
        return False
    if value[0] not in COMMANDS or len(value) != 1 + COMMANDS[value[0]]:
        return False
    word = value[0]
    if word == "round":
        return is_count(value[1])
    if word == "try":
        return is_script(value[1])
    if word == "late":
        return is_name(value[1]) and is_count(value[2])
    if word in ("put", "join"):
        return is_name(value[1]) and isinstance(value[2], Rule) and all([is_whole(hour) for hour in value[3:]])
    return all([is_name(name) for name in value[1:]])


def script_lines(script):
    """The list of the lines of the text of a script."""
    lines = []
    for command in script:
        lines.extend(_lines_of(command))
    return lines


def _lines_of(command):
    word = command[0]
    if word == "try":
        return ["try"] + indented(script_lines(command[1])) + ["end"]
    if word == "put":
        return [f"put {command[1]}: {rule_text(command[2])}"]
    if word == "join":
        return [f"join {command[1]} {command[3]}: {rule_text(command[2])}"]
    return [" ".join([str(thing) for thing in command])]


def indented(lines):
    """Some lines, each behind two blanks more."""
    return ["  " + line for line in lines]


def script_in(lines):
    """What comes of lines if each is read as a command; it is a script of just these lines if they are those of one."""
    script = []
    at = 0
    while at < len(lines):
        behind = at + 1
        while lines[at] == "try" and behind < len(lines) and lines[behind].startswith("  "):
            behind = behind + 1
        inner = [line[2:] for line in lines[at + 1:behind]]
        script.append(("try", script_in(inner)) if lines[at] == "try" else _command_in(lines[at]))
        # Behind the lines of a try comes its end.
        at = behind + 1 if lines[at] == "try" else behind
    return script


def _command_in(line):
    head, colon, rule = line.partition(": ")
    words = head.split(" ")
    if words[0] in ("round", "late"):
        return tuple(words[:-1]) + (whole_in(words[-1]),)
    if words[0] == "put":
        return tuple(words) + (rule_in(rule),)
    if words[0] == "join":
        return tuple(words[:2]) + (rule_in(rule), whole_in(words[-1]))
    return tuple(words)
