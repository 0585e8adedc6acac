"""Steps that are needed, tests that are settled, other orders of steps."""

from textworkshop.alikes import parting_of
from textworkshop.carried import text_into
from textworkshop.errors import BadNumber, BadStep, BadWord
from textworkshop.guards import each_line_guard, some_line_guard
from textworkshop.guardsets import guard_set
from textworkshop.questions import check_number, check_question, parts_of
from textworkshop.runs import stages_of
from textworkshop.scripts import Script
from textworkshop.signs import is_whole


def part_script(script, numbers):
    """The script of just the steps with these numbers, which ascend; raises BadNumber."""
    last = -1
    for number in numbers:
        if not is_whole(number) or not last < number < len(script.steps):
            raise BadNumber("number", number)
        last = number
    return Script([script.steps[number] for number in numbers], script.tongue)


def moved_script(script, number, place):
    """The script in which a step stands at another place; raises BadNumber."""
    check_number(script, number)
    if not is_whole(place) or not 0 <= place < len(script.steps):
        raise BadNumber("place", place)
    return Script(moved_to(script.steps, number, place), script.tongue)


def moved_to(steps, number, place):
    """The list of steps in which one of them stands at another place."""
    others = without(steps, number)
    return [*others[:place], steps[number], *others[place:]]


def without(steps, number):
    """The list of the other steps."""
    return [step for at, step in enumerate(steps) if at != number]


def idle_text(script, number, *, under=None):
    """None if a step is idle, otherwise the first of the shortest texts that shows that it is not."""
    check_number(script, number)
    parts = parts_of(script)
    check_question(parts + without(parts, number), [under])
    return parting_of(parts, without(parts, number), under)


def idle_steps(script, *, under=None):
    """The numbers of the idle steps, ascending."""
    parts = parts_of(script)
    for number in range(len(parts)):
        check_question(parts + without(parts, number), [under])
    return tuple([number for number in range(len(parts))
                  if parting_of(parts, without(parts, number), under) is None])


def least_steps(script, *, under=None):
    """The numbers of the fewest steps that make a script that is alike."""
    parts = parts_of(script)
    check_question(parts * 2, [under])
    texts = []
    for many in range(len(parts)):
        for numbers in choices(list(range(len(parts))), many):
            # Most choices are parted by a text that has parted another one.
            if parts_with(script, numbers, texts):
                continue
            text = parting_of(parts, [parts[number] for number in numbers], under)
            if text is None:
                return numbers
            texts.append(text)
    return tuple(range(len(parts)))


def choices(numbers, many):
    """All choices of so many numbers, in their order: tuples."""
    if many == 0:
        return [()]
    return [(number, *rest) for at, number in enumerate(numbers) for rest in choices(numbers[at + 1:], many - 1)]


def parts_with(script, numbers, texts):
    """Whether one of these texts shows that the script of some steps is not alike."""
    some = part_script(script, numbers)
    return any([outcome(script, text) != outcome(some, text) for text in texts])


def outcome(script, text):
    """What a script makes of a text, None if it refuses it."""
    texts, number = stages_of(script, text)
    return texts[-1] if number is None else None


def shown_text(script, number, truth, *, under=None):
    """The first of the shortest texts that come to a step with a line of which its test has this truth; or None."""
    check_number(script, number)
    test = script.steps[number].test
    if test is None:
        raise BadStep(number)
    if truth is not True and truth is not False:
        raise BadWord("truth")
    goal = guard_set(some_line_guard(test)) if truth else ~guard_set(each_line_guard(test))
    parts = parts_of(part_script(script, tuple(range(number))))
    check_question(parts, [goal, under])
    return text_into(parts, goal, under)


def order_text(script, number, *, under=None):
    """None if a step and the next one can change places, otherwise the first of the shortest texts against it."""
    check_number(script, number)
    if number + 1 == len(script.steps):
        raise BadNumber("number", number)
    parts = parts_of(script)
    check_question(parts * 2, [under])
    return parting_of(parts, moved_to(parts, number, number + 1), under)


def movable_places(script, number, *, under=None):
    """All places to which a step can be moved such that the script stays alike, ascending."""
    check_number(script, number)
    parts = parts_of(script)
    check_question(parts * 2, [under])
    return tuple([place for place in range(len(parts))
                  if place == number or parting_of(parts, moved_to(parts, number, place), under) is None])
