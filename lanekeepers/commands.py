"""Commands: what is one by its words alone, whatever is kept."""

from lanekeepers.scanning import is_figure, is_readable

LETTERS = "abcdefghijklmnopqrstuvwxyz"
MOST_SIGNS_OF_A_NAME = 8
MOST_SIGNS_OF_A_TEXT = 120
MOST_FIGURES_OF_A_COUNT = 2

# What stands behind each word. NEW and FRESH are a name and a label that are not taken yet.
DEEDS = {
    "country": "NEW LANES", "web": "NEW TEXT", "stand": "NEW WEB CARTS", "land": "NEW WEB", "turned": "NEW WEB",
    "join": "NEW WEB GATE OTHER DOOR", "jam": "NEW WEB", "rest": "NEW WEB STAND",
    "book": "WEB YARD BOOK", "either": "WEB YARD BOOK", "both": "WEB YARD BOOK",
    "place": "WEB YARD TARGET", "bound": "WEB YARD TARGET", "led": "STAND WEB STEPS",
    "drop": "NAME", "claim": "FRESH CLAIM", "forget": "LABEL",
}
OTHERS = {
    "undo": "", "redo": "", "state": "LABEL", "states": "", "claimed": "LABEL", "names": "", "show": "NAME",
    "posts": "WEB", "sides": "WEB", "nearest": "WEB", "fewest": "WEB", "kind": "WEB GATE", "all": "WEB",
    "stuck": "WEB STAND", "sticks": "WEB MANY MANY", "refused": "WEB STAND", "lanes": "WEB STAND",
    "way": "COUNTRY START END", "same": "NAME OTHER",
}
CLAIMS = {
    "never": "WEB", "can": "WEB", "allcome": "WEB", "notall": "WEB",
    "plugged": "WEB YARD TARGET", "free": "WEB YARD TARGET", "few": "WEB MANY", "more": "WEB MANY",
    "stands": "WEB YARD LOAD", "barred": "WEB YARD LOAD", "moves": "WEB STAND", "stuck": "WEB STAND",
}
NAMES = ("NEW", "FRESH", "LABEL")
# Names under which something of this kind is kept, OTHER of the kind ahead of it, NAME of any kind.
THINGS = ("COUNTRY", "WEB", "STAND", "OTHER", "NAME")
COUNTS = ("YARD", "TARGET", "GATE", "DOOR", "START", "END", "MANY")


def is_name(value):
    if not isinstance(value, str) or not 1 <= len(value) <= MOST_SIGNS_OF_A_NAME or value[0] not in LETTERS:
        return False
    return all([sign in LETTERS or is_figure(sign) for sign in value])


def is_command(value):
    if not isinstance(value, str):
        return False
    words = value.split(" ")
    kinds = kinds_behind(words)
    return kinds is not None and are_parts_of(kinds, words[1:])


def is_deed(value):
    return is_command(value) and value.split(" ")[0] in DEEDS


def kinds_behind(words):
    """What the tables tell for the parts behind the first word; None if it is no word of them."""
    if words[0] == "claim":
        return ["FRESH", "WORD"] + CLAIMS[words[2]].split() if len(words) > 2 and words[2] in CLAIMS else None
    pattern = DEEDS.get(words[0], OTHERS.get(words[0]))
    return None if pattern is None else pattern.split()


def are_parts_of(kinds, parts):
    return len(parts) == len(kinds) and all([is_part(kind, part) for kind, part in zip(kinds, parts)])


def is_part(kind, part):
    if kind in NAMES or kind in THINGS:
        return is_name(part)
    if kind in COUNTS:
        return is_short_count(part)
    # The word of a claim is found in its table already.
    return kind == "WORD" or len(part) <= MOST_SIGNS_OF_A_TEXT and is_readable(kind, part)


def is_short_count(part):
    if not 1 <= len(part) <= MOST_FIGURES_OF_A_COUNT or not all([is_figure(sign) for sign in part]):
        return False
    return part[0] != "0" or part == "0"
