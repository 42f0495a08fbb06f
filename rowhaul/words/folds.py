"""Folds over the columns of records."""

from rowhaul.errors import Falls
from rowhaul.words.exprs import is_word
from rowhaul.words.wholes import check_from, is_from, is_several

_MOST_COLUMNS = 9
_OF_A_COLUMN = ("sum", "least", "most", "last")


def is_fold(thing, width):
    """Is it a fold over so many columns?"""
    check_from(width, 0, _MOST_COLUMNS)
    if not is_several(thing, 1, 2):
        return False
    if len(thing) == 1:
        return thing[0] == "count"
    return thing[0] in _OF_A_COLUMN and is_from(thing[1], 0, width - 1)


def folded(folds, records):
    """The words that the folds make of one record or more; or Falls."""
    held = folds_begun(folds, records[0])
    for record in records[1:]:
        held = folds_joined(folds, held, record)
    return held


def folds_begun(folds, record):
    """The folds over a first record."""
    return tuple([1 if fold[0] == "count" else record[fold[1]] for fold in folds])


def folds_joined(folds, held, record):
    """The folds over those that are held and one record more."""
    return tuple([_fold_joined(fold, word, record) for fold, word in zip(folds, held)])


def _fold_joined(fold, word, record):
    """One fold over what it held and one record more."""
    if fold[0] == "count":
        return word + 1
    new = record[fold[1]]
    if fold[0] == "least":
        return min(word, new)
    if fold[0] == "most":
        return max(word, new)
    if fold[0] == "last":
        return new
    if not is_word(word + new):
        raise Falls("great")
    return word + new
