"""The texts of kinds and of values."""

from neargrades.errors import BadKind, BadName, UnknownName
from neargrades.kinds import SETS, check_kind, item_kinds, kind_at, parts_of_kind, side_kind, stones
from neargrades.reading import Reader
from neargrades.values import states_in, value_of
from neargrades.words import is_word

KIND_OPENINGS = ("names ", "next", "both(", "along(", "either(", "row ", "forth(", "back(", "kept(")


def write_kind(kind, spaces):
    """The text of a kind, spaces being a dict from words to Spaces."""
    for path, word in stones(kind):
        if word == "names" and _word_of(kind_at(kind, path)[1], spaces) is None:
            raise BadKind(path)
    return _kind_text(kind, spaces)


def _word_of(space, spaces):
    """The first word that has an equal space, None if there is none."""
    for word in sorted(list(spaces)):
        if spaces[word] == space:
            return word
    return None


def _kind_text(kind, spaces):
    word = kind[0]
    if word == "names":
        return f"names {_word_of(kind[1], spaces)}"
    if word == "next":
        return "next"
    inner = ", ".join([_kind_text(part, spaces) for part in parts_of_kind(kind)])
    if word == "row":
        letters = " ".join(kind[1])
        return f"row {letters}({inner})"
    return f"{word}({inner})"


def read_kind(scale, spaces, text):
    """The kind that a text tells."""
    reader = Reader(text)
    form = _read_form(reader)
    reader.close()
    kind = _with_spaces(form, spaces)
    check_kind(kind, scale)
    return kind


def _read_form(reader):
    """A kind as the text has it: words in the place of spaces, any number of letters."""
    opening = reader.choose(KIND_OPENINGS)
    if opening == "names ":
        return ("names", reader.take_word())
    if opening == "next":
        return ("next",)
    if opening == "row ":
        return _read_row(reader)
    parts = [_read_form(reader)]
    word = opening[:-1]
    if word not in SETS:
        reader.expect(", ")
        parts.append(_read_form(reader))
    reader.expect(")")
    return (word, *parts)


def _read_row(reader):
    letters = [reader.take_word()]
    while reader.choose((" ", "(")) == " ":
        letters.append(reader.take_word())
    inner = _read_form(reader)
    reader.expect(")")
    return ("row", tuple(letters), inner)


def _with_spaces(form, spaces):
    word = form[0]
    if word == "names":
        if form[1] not in spaces:
            raise UnknownName(form[1])
        return ("names", spaces[form[1]])
    if word == "row":
        return ("row", form[1], _with_spaces(form[2], spaces))
    parts = [_with_spaces(part, spaces) for part in parts_of_kind(form)]
    return (word, *parts)


def write_value(kind, value):
    """The text of a value of a kind."""
    for state in states_in(kind, value):
        if not is_word(state):
            raise BadName(state)
    return _value_text(kind, value)


def _value_text(kind, value):
    word = kind[0]
    if word == "names":
        return value
    if word == "next":
        return "@" + value
    if word == "either":
        inner = _value_text(side_kind(kind, value[0]), value[1])
        return f"{value[0]} {inner}"
    if word in SETS:
        entries = [f"{_value_text(kind[1], inner)} * {grade}" for inner, grade in value]
        return "{" + ", ".join(entries) + "}"
    kinds = item_kinds(kind)
    items = ", ".join([_value_text(kinds[k], value[k]) for k in range(len(kinds))])
    return f"[{items}]" if word == "row" else f"({items})"


def read_value(kind, scale, states, text):
    """The value that a text of the kind tells."""
    reader = Reader(text)
    data = read_data(kind, reader)
    reader.close()
    return value_of(kind, scale, states, data)


def read_data(kind, reader):
    """The data of a kind that a reader's text tells from its place on."""
    word = kind[0]
    if word == "names":
        return reader.take_word()
    if word == "next":
        reader.expect("@")
        return reader.take_word()
    if word == "either":
        side = reader.choose(("left ", "right "))[:-1]
        return (side, read_data(side_kind(kind, side), reader))
    if word in SETS:
        return _read_set(kind, reader)
    return _read_items(kind, reader)


def _read_set(kind, reader):
    reader.expect("{")
    entries = []
    if reader.stands("}"):
        reader.expect("}")
        return ()
    sign = ", "
    while sign == ", ":
        inner = read_data(kind[1], reader)
        reader.expect(" * ")
        entries.append((inner, reader.take_grade()))
        sign = reader.choose((", ", "}"))
    return tuple(entries)


def _read_items(kind, reader):
    kinds = item_kinds(kind)
    opening, closing = ("[", "]") if kind[0] == "row" else ("(", ")")
    reader.expect(opening)
    items = []
    for inner in kinds:
        if items:
            reader.expect(", ")
        items.append(read_data(inner, reader))
    reader.expect(closing)
    return tuple(items)
