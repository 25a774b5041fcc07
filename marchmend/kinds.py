"""The kinds of harm, and which of them a test tells."""

from marchmend.errors import NoKind
from marchmend.harms import harms_on, is_of_one_cell
from marchmend.judging import judged
from marchmend.marches import is_one_of, look_at_sure

KINDS = ("stuck", "slow", "forgets", "misreads", "turns", "sets", "keeps", "nowhere", "other", "both")


def look_at_kind(thing):
    if not is_one_of(thing, KINDS):
        raise NoKind("no kind of harm")


def harms_of(kind):
    look_at_kind(kind)
    return harms_on(kind, [0] if is_of_one_cell(kind) else [0, 1])


def let_by(test, kind):
    look_at_sure(test)
    return [harm for harm in harms_of(kind) if judged(test, [harm])[0] == "let"]


def told_kinds(test):
    return sorted([kind for kind in KINDS if len(let_by(test, kind)) == 0])
