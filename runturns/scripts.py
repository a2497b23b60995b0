"""Scripts: lists of commands for a hall, what is said while they are played, and their texts."""

from runturns.counts import is_count
from runturns.errors import Apart, InvalidHall, InvalidRun, InvalidScript, InvalidSpot, InvalidText, NothingToRedo
from runturns.errors import NothingToUndo, Refused, Unlike
from runturns.hall import Hall, carry_out
from runturns.papers import number_in, shelf_in, shelf_lines, text_lines
from runturns.shelves import Shelf, is_lot_of_books

# The kinds of the things behind the word of each command.
KINDS_BEHIND = {"put": ("shelf",), "take": ("spot",), "turn": ("spot", "run"), "wish": ("spot", "shelf"),
                "unwish": ("spot",), "bar": ("run",), "unbar": ("run",), "go": ("spot",),
                "exchange": ("spot", "shelf"), "meet": ("spot", "spot", "spot"), "left": ("spot",),
                "needed": ("spot",), "openings": ("spot",), "undo": (), "redo": (), "try": ("script",)}
# The words with which is said what the commands give, so far as they give something.
SAID = {"put": "put", "go": "gone", "meet": "met"}


def _is_thing(kind, value):
    """Whether any object is a thing of a kind."""
    if kind == "shelf":
        return isinstance(value, Shelf)
    if kind == "spot":
        return is_count(value)
    if kind == "run":
        return is_lot_of_books(value)
    return is_script(value)


def _is_command(value):
    """Whether any object is a command of a script."""
    if not isinstance(value, tuple) or value == () or not isinstance(value[0], str):
        return False
    kinds = KINDS_BEHIND.get(value[0])
    if kinds is None or len(value) != 1 + len(kinds):
        return False
    return all([_is_thing(kind, thing) for kind, thing in zip(kinds, value[1:])])


def is_script(value):
    """Whether any object is a script."""
    return isinstance(value, list) and all([_is_command(command) for command in value])


def _check_script(script):
    if not is_script(script):
        raise InvalidScript(script)


def _said_without_error(hall, command):
    """What is said of a command that raises no error."""
    match command:
        case ("try", inner):
            with hall.trial():
                return "tried", _all_said(hall, inner)
        case ("left", spot):
            return "left", hall.left(spot)
        case ("needed", spot):
            return "needed", hall.needed(spot)
        case ("openings", spot):
            return "openings", hall.openings(spot)
        case ("undo",):
            hall.undo()
            return ("done",)
        case ("redo",):
            hall.redo()
            return ("done",)
    given = carry_out(hall, command)
    return (SAID[command[0]], given) if command[0] in SAID else ("done",)


def _said(hall, command):
    """What is said of a command."""
    try:
        return _said_without_error(hall, command)
    except InvalidSpot:
        return "refused", "InvalidSpot"
    except InvalidRun:
        return "refused", "InvalidRun"
    except Unlike:
        return "refused", "Unlike"
    except Apart:
        return "refused", "Apart"
    except Refused:
        return "refused", "Refused"
    except NothingToUndo:
        return "refused", "NothingToUndo"
    except NothingToRedo:
        return "refused", "NothingToRedo"


def _all_said(hall, script):
    return [_said(hall, command) for command in script]


def play(hall, script):
    """Carry out a script on a hall, and return what is said: a tuple for each command."""
    if not isinstance(hall, Hall):
        raise InvalidHall(hall)
    _check_script(script)
    return _all_said(hall, script)


def _lines_of_command(command):
    pieces, inner = [command[0]], None
    for kind, thing in zip(KINDS_BEHIND[command[0]], command[1:]):
        if kind == "spot":
            pieces.append(str(thing))
        elif kind == "run":
            pieces += list(thing)
        elif kind == "shelf":
            inner = shelf_lines(thing)
        else:
            inner = _lines_of_script(thing)
    line = " ".join(pieces)
    return [line] if inner is None else [line] + ["  " + one for one in inner] + ["end"]


def _lines_of_script(script):
    return [line for command in script for line in _lines_of_command(command)]


def script_text(script):
    """The text of a script."""
    _check_script(script)
    return "\n".join(_lines_of_script(script))


def _lines_within(lines):
    """Those of some lines, from the first one on, that begin with two blanks, without these."""
    found = []
    for line in lines:
        if not line.startswith("  "):
            break
        found.append(line[2:])
    return found


def _command_in(kinds, pieces, inner):
    """The command of things of some kinds that pieces of a line, and the lines within, tell; None if they tell none."""
    things, rest = [], pieces[1:]
    for kind in kinds:
        if kind == "spot":
            things += [number_in(piece) for piece in rest[:1]]
            rest = rest[1:]
        elif kind == "run":
            things.append(tuple(rest))
            rest = []
        elif kind == "shelf":
            things.append(shelf_in(inner))
        else:
            things.append(_script_in(inner))
    command = tuple(pieces[:1] + things)
    return command if rest == [] and _is_command(command) else None


def _script_in(lines):
    """The script that some lines tell, None if they tell none."""
    script, at = [], 0
    while at < len(lines):
        pieces, inner = lines[at].split(" "), _lines_within(lines[at + 1:])
        kinds = KINDS_BEHIND.get(pieces[0], ())
        has_end = "shelf" in kinds or "script" in kinds
        at += 1 + len(inner)
        command = _command_in(kinds, pieces, inner)
        if command is None or (has_end and lines[at:at + 1] != ["end"]) or (inner != [] and not has_end):
            return None
        script.append(command)
        at += 1 if has_end else 0
    return script


def read_script(text):
    """The script that has a text."""
    script = _script_in(text_lines(text))
    if script is None:
        raise InvalidText(text)
    return script


def end_of(catalogue, script):
    """The spots with their shelves and wishes, and the barred runs, when a script was played on a new hall."""
    hall = Hall(catalogue)
    play(hall, script)
    return {spot: (hall.shelf(spot), hall.wish_of(spot)) for spot in hall.spots()}, hall.barred()


def shortened(catalogue, script):
    """What is left of a script if, from the last command on, each is left out that changes nothing of the end."""
    # A try changes nothing, so none is left, and what is left holds no list of the script's.
    end, found = end_of(catalogue, script), list(script)
    for at in reversed(range(len(script))):
        less = found[:at] + found[at + 1:]
        if end_of(catalogue, less) == end:
            found = less
    return found
