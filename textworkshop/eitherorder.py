"""Two scripts on all texts: in either order, and side by side."""

from textworkshop.alikes import parting_of
from textworkshop.errors import MayConflict
from textworkshop.mergeways import ConflictSearch, merged_ways
from textworkshop.questions import check_question, parts_of, question_signs, script_ways
from textworkshop.searches import Comparing


def order_parting(one, other, *, under=None):
    """None if two scripts can be done in either order, otherwise the first of the shortest texts against it."""
    mine, yours = parts_of(one), parts_of(other)
    check_question((mine + yours) * 2, [under])
    return parting_of(mine + yours, yours + mine, under)


def merge_conflict(one, other, *, under=None):
    """A shortest text with a conflict of two scripts, None if there is none."""
    mine, yours = parts_of(one), parts_of(other)
    check_question(mine + yours, [under])
    first, second = both_ways(mine, yours, under)
    return ConflictSearch(first, second).shortest()


def both_ways(mine, yours, under):
    """The ways of the parts of two scripts for the texts of a set."""
    signs = question_signs(mine + yours, [under])
    return script_ways(mine, signs, under), script_ways(yours, signs)


def merge_parting(one, other, *, under=None):
    """None if merging is doing one and then other, otherwise a shortest text against it; raises MayConflict."""
    mine, yours = parts_of(one), parts_of(other)
    check_question((mine + yours) * 2, [under])
    first, second = both_ways(mine, yours, under)
    text = ConflictSearch(first, second).shortest()
    if text is not None:
        raise MayConflict(text)
    in_order = script_ways(mine + yours, first.signs, None, True)
    return Comparing(merged_ways(first, second), in_order).first_unlike()
