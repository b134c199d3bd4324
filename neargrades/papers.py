"""Table papers: papers that show a nearness, and what is made of papers that are let by."""

from neargrades.asking import nearness_on, whole_pairs
from neargrades.errors import BadPaper, UnknownGrade
from neargrades.judging import judge_paper, table_of_rows
from neargrades.pairs import all_pairs, check_pair
from neargrades.residues import within
from neargrades.systems import check_like
from neargrades.thinning import thin_rows


def _check_let_by(system, other, paper):
    """Raise MixedScales, MixedKinds, then BadPaper, unless any value is a paper that is let by."""
    if judge_paper(system, other, paper) is not None:
        raise BadPaper()


def _rows_of(table):
    """The rows of a table, in its order."""
    return tuple([(x, y, grade) for (x, y), grade in table.items()])


def paper_of(system, other, pairs):
    """The paper of the nearness of all whole pairs, those with none left out."""
    table, _ = nearness_on(system, other, pairs)
    return tuple([row for row in _rows_of(table) if row[2] != system.scale.none])


def claim_paper(system, other, x, y, grade):
    """A paper, tight for the pair, that shows that it has the grade; None if it has not."""
    check_like(system, other)
    check_pair(system, other, x, y)
    scale = system.scale
    if grade not in scale:
        raise UnknownGrade(grade)
    if grade == scale.none:
        return ()
    rows = paper_of(system, other, [(x, y)])
    if not within(scale, grade, table_of_rows(rows).get((x, y), scale.none)):
        return None
    return thin_rows(system, other, rows, (x, y))


def thinned(system, other, paper, x, y):
    """Some rows of a paper, tight for a pair; () if it has no row of the pair."""
    _check_let_by(system, other, paper)
    check_pair(system, other, x, y)
    if (x, y) not in table_of_rows(paper):
        return ()
    return thin_rows(system, other, paper, (x, y))


def joined(system, other, paper, second):
    """The rows of both papers, those of one pair as one row with the join of both grades."""
    _check_let_by(system, other, paper)
    _check_let_by(system, other, second)
    table = table_of_rows(paper)
    for x, y, grade in second:
        table[(x, y)] = system.scale.join(table.get((x, y), system.scale.none), grade)
    return _rows_of(table)


def cut(system, other, paper, pairs):
    """The rows whose pairs are among the whole pairs of some pairs."""
    _check_let_by(system, other, paper)
    whole = {pair: True for pair in whole_pairs(system, other, pairs)}
    return tuple([row for row in paper if row[:2] in whole])


def behind_papers(system, middle, other, paper, second):
    """The paper from the first system to the last one by way of the middle one."""
    check_like(system, middle)
    check_like(middle, other)
    _check_let_by(system, middle, paper)
    _check_let_by(middle, other, second)
    scale = system.scale
    further = _by_first(second)
    table = {}
    for x, y, grade in paper:
        for z, rest in further.get(y, []):
            table[(x, z)] = scale.join(table.get((x, z), scale.none), scale.then(grade, rest))
    return tuple([(x, z, table[(x, z)]) for x, z in all_pairs(system, other) if (x, z) in table])


def _by_first(rows):
    """A dict from the first states of some rows to the lists of what stands behind them."""
    told = {}
    for x, y, grade in rows:
        told.setdefault(x, []).append((y, grade))
    return told
