"""Scripts that do the same, and scripts that give texts back."""

from textworkshop.questions import (
    check_question, parts_of, question_signs, script_links, script_ways, set_links)
from textworkshop.searches import Comparing
from textworkshop.ways import chained


def unlike_text(first, second, *, under=None):
    """None if two scripts are alike, otherwise the first of the shortest texts that shows they are not."""
    ones, others = parts_of(first), parts_of(second)
    check_question(ones + others, [under])
    return parting_of(ones, others, under)


def parting_of(ones, others, under):
    """The first of the shortest texts with which the scripts of these parts do not do the same; or None."""
    signs = question_signs(ones + others, [under])
    one = script_ways(ones, signs, under, True)
    return Comparing(one, script_ways(others, signs, None, True)).first_unlike()


def unrestored_text(first, second, *, under=None):
    """None if second restores what first does, otherwise the first of the shortest texts that is not given back."""
    ones, others = parts_of(first), parts_of(second)
    check_question(ones + others, [under])
    signs = question_signs(ones + others, [under])
    links = set_links(under, signs) + script_links(ones, signs) + script_links(others, signs, True)
    return Comparing(chained(signs, links), script_ways([], signs)).first_unlike()
