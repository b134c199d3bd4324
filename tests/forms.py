"""A second way to tell which beginnings of texts can stand: forms that are tried in all ways.

A form is a function from a text, a place and a list to the places where it may end. It puts into the list
each place up to which a text of the form may begin as this text does. The greatest of these is the number
of the first sign that cannot stand.
"""

WORD_START = "abcdefghijklmnopqrstuvwxyz"
WORD_SIGNS = WORD_START + "0123456789"


def literal(word):
    def form(text, at, reached):
        for k, sign in enumerate(word):
            reached.append(at + k)
            if text[at + k:at + k + 1] != sign:
                return []
        return [at + len(word)]
    return form


def one_of_signs(signs):
    def form(text, at, reached):
        reached.append(at)
        return [at + 1] if at < len(text) and text[at] in signs else []
    return form


def row(*forms):
    def form(text, at, reached):
        ends = [at]
        for inner in forms:
            ends = sorted({end for start in ends for end in inner(text, start, reached)})
        return ends
    return form


def choice(*forms):
    def form(text, at, reached):
        return sorted({end for inner in forms for end in inner(text, at, reached)})
    return form


def many(inner, most=10 ** 9):
    """The form none, one or more times."""
    def form(text, at, reached):
        told, ends, count = {at}, [at], 0
        while ends and count < most:
            ends = sorted({end for start in ends for end in inner(text, start, reached)} - told)
            told.update(ends)
            count += 1
        return sorted(told)
    return form


def later(make):
    return lambda text, at, reached: make()(text, at, reached)


WORD = row(one_of_signs(WORD_START), many(one_of_signs(WORD_SIGNS), 11))
GRADE_SIGN = one_of_signs(WORD_SIGNS + "/")
GRADE = row(GRADE_SIGN, many(GRADE_SIGN))


def kind_form():
    inner = later(kind_form)
    two = row(inner, literal(", "), inner, literal(")"))
    one = row(inner, literal(")"))
    return choice(
        row(literal("names "), WORD), literal("next"),
        row(literal("both("), two), row(literal("along("), two), row(literal("either("), two),
        row(literal("row "), WORD, many(row(literal(" "), WORD)), literal("("), one),
        row(literal("forth("), one), row(literal("back("), one), row(literal("kept("), one),
    )


def listed(inner):
    return row(inner, many(row(literal(", "), inner)))


def value_form(kind):
    word = kind[0]
    if word == "names":
        return WORD
    if word == "next":
        return row(literal("@"), WORD)
    if word in ("both", "along"):
        return row(literal("("), value_form(kind[1]), literal(", "), value_form(kind[2]), literal(")"))
    if word == "either":
        return choice(row(literal("left "), value_form(kind[1])), row(literal("right "), value_form(kind[2])))
    if word == "row":
        items = [value_form(kind[2])]
        for _ in kind[1][1:]:
            items += [literal(", "), value_form(kind[2])]
        return row(literal("["), *items, literal("]"))
    entry = row(value_form(kind[1]), literal(" * "), GRADE)
    return row(literal("{"), choice(literal("}"), row(listed(entry), literal("}"))))


def first_wrong_sign(form, text):
    """The place of the first sign that cannot stand, None if the text is of the form."""
    reached = []
    ends = form(text, 0, reached)
    if len(text) in ends:
        return None
    return min(max(reached + ends), len(text))
