"""What texts tell, and what can be written as one: read by the document's words, apart from the package's readers."""

import re

from runturns.shelves import Shelf
from tests.helpers import are_changes_by_form, book_is_right, is_shelf


def is_run(value):
    return type(value) is tuple and len(value) > 1 and all(book_is_right(book) for book in value) and \
        len(set(value)) == len(value)


def are_runs(value):
    return type(value) is list and all(is_run(run) for run in value)


def are_prices(value):
    return type(value) is dict and all(is_run(run) and type(price) is int and price >= 0
                                       for run, price in value.items())


def are_shelves(value):
    return type(value) is list and all(is_shelf(shelf) for shelf in value)


def is_change(value):
    return are_changes_by_form([value])


BOOKS = "[a-z]{1,8}(?: [a-z]{1,8})*"
NUMBER = "(?:0|[1-9][0-9]*)"


def books_in(line):
    """The list of the books of a line, None if it is not one of unlike books."""
    books = line.split(" ")
    return books if re.fullmatch(BOOKS, line) and len(set(books)) == len(books) else None


def shelf_by_words(text):
    """The shelf that a text is of, None if it is of none."""
    lines = [books_in(line) for line in text.split("\n")]
    if len(lines) != 2 or None in lines or sorted(lines[0]) != sorted(lines[1]):
        return None
    return Shelf(lines[0], lines[1])


def shelves_by_words(text):
    lines = text.split("\n") if text else []
    if text and (len(lines) % 3 != 2 or any(lines[2::3])):
        return None
    shelves = [shelf_by_words("\n".join(lines[at:at + 2])) for at in range(0, len(lines), 3)]
    return None if None in shelves else shelves


def turns_by_words(text):
    lines = [books_in(line) for line in text.split("\n")] if text else []
    return None if None in lines or any(len(line) < 2 for line in lines) else [tuple(line) for line in lines]


def prices_by_words(text):
    lines = text.split("\n") if text else []
    if not all(re.fullmatch(f"{BOOKS} = {NUMBER}", line) for line in lines):
        return None
    runs = [books_in(line.split(" = ")[0]) for line in lines]
    if None in runs or any(len(run) < 2 for run in runs) or any(one >= other for one, other in zip(runs, runs[1:])):
        return None
    return {tuple(run): int(line.split(" = ")[1]) for run, line in zip(runs, lines)}


def change_by_words(text):
    forms = f"put [a-z]{{1,8}} {NUMBER} {NUMBER}|out [a-z]{{1,8}}|(?:move|list) [a-z]{{1,8}} {NUMBER}"
    if not re.fullmatch(forms, text):
        return None
    pieces = text.split(" ")
    return tuple(pieces[:2] + [int(piece) for piece in pieces[2:]])


# What stands on the line of each command: N is a count, B are two or more unlike books; + is a shelf, * a script below.
LINES = {"put": "+", "take": "N", "turn": "N B", "wish": "N +", "unwish": "N", "bar": "B", "unbar": "B", "go": "N",
         "exchange": "N +", "meet": "N N N", "left": "N", "needed": "N", "openings": "N", "undo": "", "redo": "",
         "try": "*"}


def is_count(value):
    return type(value) is int and value >= 0


def is_script(value):
    """[104]: whether any object is a script."""
    judges = {"N": is_count, "B": is_run, "+": is_shelf, "*": is_script}
    if type(value) is not list:
        return False
    for command in value:
        if type(command) is not tuple or len(command) == 0 or type(command[0]) is not str or command[0] not in LINES:
            return False
        kinds = LINES[command[0]].split()
        if len(command) != 1 + len(kinds):
            return False
        if not all(judges[kind](thing) for kind, thing in zip(kinds, command[1:])):
            return False
    return True


def text_of_script(script, inset=""):
    """[106]: the lines of a script, so far in."""
    lines = []
    for word, *things in script:
        line, below = inset + word, None
        for thing in things:
            if type(thing) is int:
                line += f" {thing}"
            elif type(thing) is tuple:
                line += "".join(f" {book}" for book in thing)
            elif type(thing) is list:
                below = text_of_script(thing, inset + "  ")
            else:
                below = [inset + "  " + " ".join(books) for books in (thing.catalogue(), thing.row())]
        lines += [line] if below is None else [line] + below + [inset + "end"]
    return lines


def script_by_words(text):
    """The script that a text is of, None if it is of none."""
    lines = text.split("\n") if text else []
    script = commands_by_words(lines, "")
    return None if lines else script


def commands_by_words(lines, inset):
    """The commands so far in of which the first ones of some lines are; those lines are taken out of the list."""
    script = []
    while lines and lines[0].startswith(inset):
        command = command_by_words(lines, inset)
        if command is None:
            return script
        script.append(command)
    return script


def command_by_words(lines, inset):
    """The command of the first lines, which are taken out then; None if they are of none, and nothing is taken out."""
    word, *pieces = lines[0][len(inset):].split(" ")
    if word not in LINES:
        return None
    things, left = [], list(lines[1:])
    for kind in LINES[word].split():
        if kind == "N":
            if not pieces or not re.fullmatch(NUMBER, pieces[0]):
                return None
            things.append(int(pieces.pop(0)))
        elif kind == "B":
            things.append(tuple(books_in(" ".join(pieces)) or ()))
            pieces = []
            if len(things[-1]) < 2:
                return None
        elif kind == "+":
            below, left = left[:2], left[2:]
            if not all(line.startswith(inset + "  ") for line in below):
                return None
            things.append(shelf_by_words("\n".join(line[len(inset) + 2:] for line in below)))
        else:
            things.append(commands_by_words(left, inset + "  "))
    if pieces or None in things:
        return None
    if LINES[word][-1:] in ("+", "*"):
        if left[:1] != [inset + "end"]:
            return None
        left = left[1:]
    lines[:] = left
    return (word, *things)
