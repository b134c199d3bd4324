"""The texts of sayings."""

from neargrades.reading import Reader
from neargrades.sayforms import GRADED, PARTS, gathered, same_places

GRADE = "="
NAME = "like("
OPENINGS = (
    "=", "like(", "and(", "or(", "by(", "if(", "step(", "now(", "halves(", "left(", "right(", "rows(", "some(", "all(",
)


def write_saying(saying):
    """The text of a saying of any kind, about states or values."""
    return gathered(saying, None, same_places, _write)


def _write(saying, place, texts):
    """The text of a saying, from those of its parts."""
    if not isinstance(saying, tuple):
        return GRADE + saying
    word = saying[0]
    if word == "like":
        return f"like({saying[1]})"
    items = [GRADE + saying[1], *texts] if word in GRADED else texts
    inner = ", ".join(items)
    return f"{word}({inner})"


def read_saying(text):
    """The saying of a text."""
    reader = Reader(text)
    saying = _read_saying(reader)
    reader.close()
    return saying


def _read_saying(reader):
    # Sayings may stand deep in one another: here wait those that are begun, as lists of what is read of them.
    begun = []
    saying = None
    while saying is None:
        saying = _begin(reader, begun)
        if saying is not None:
            saying = _put_in(reader, begun, saying)
    return saying


def _begin(reader, begun):
    """Read a saying that has no parts; of others what stands ahead of their parts, which is put to what is begun."""
    opening = reader.choose(OPENINGS)
    if opening == GRADE:
        return reader.take_grade()
    if opening == NAME:
        name = reader.take_word()
        reader.expect(")")
        return ("like", name)
    form = [opening[:-1]]
    if form[0] in GRADED:
        reader.expect(GRADE)
        form.append(reader.take_grade())
        reader.expect(", ")
    begun.append(form)
    return None


def _put_in(reader, begun, saying):
    """Put a saying where it stands; the whole one if that ends all that is begun, None if another one is to follow."""
    while begun:
        begun[-1].append(saying)
        if _goes_on(reader, begun[-1]):
            return None
        saying = tuple(begun.pop())
    return saying


def _goes_on(reader, form):
    """Read what stands behind an item of a form; tell whether another one follows."""
    if form[0] == "rows":
        return reader.choose((", ", ")")) == ", "
    items = 2 if form[0] in GRADED else PARTS[form[0]]
    sign = ", " if len(form) <= items else ")"
    reader.expect(sign)
    return sign == ", "
