"""The texts of systems: a row for each state, with its step."""

from neargrades.errors import BadName, BadText
from neargrades.kindtexts import read_data, write_value
from neargrades.reading import Reader
from neargrades.systems import System
from neargrades.words import is_word


def write_system(system):
    """The text of a system; BadName for the first state in it that is no word."""
    return "\n".join([_write_row(system, x) for x in system.states()])


def _write_row(system, x):
    if not is_word(x):
        raise BadName(x)
    return f"{x} = {write_value(system.kind, system.step(x))}"


def read_system(scale, kind, text):
    """The system that a text tells."""
    # The empty text has no rows, while split would tell one that is empty.
    rows = text.split("\n") if text else []
    told = [_read_row(kind, rows, number) for number in range(len(rows))]
    return System(scale, kind, [x for x, data in told], {x: data for x, data in told})


def _read_row(kind, rows, number):
    """The state and the data of its step that stand in a row."""
    reader = Reader(rows[number])
    try:
        x = reader.take_word()
        reader.expect(" = ")
        data = read_data(kind, reader)
        reader.close()
    except BadText as error:
        raise BadText((number, error.place))
    return x, data
