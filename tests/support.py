"""Plain ways to know what the program must tell, and texts and tongues to ask it about."""

from itertools import product

from textworkshop import guards, steps
from textworkshop.errors import TooMany
from textworkshop.linetests import other_test, plain_test, range_test
from textworkshop.scripts import Script
from textworkshop.signs import all_signs
from textworkshop.tongues import Tongue
from textworkshop.words import line_words


def texts_up_to(signs, length):
    """All texts of these signs up to a length, by length and order of signs."""
    for many in range(length + 1):
        for told in product(sorted(signs), repeat=many):
            yield "".join(told)


def told_error(test, error, call, *args, **more):
    """The fields of the error that a call raises."""
    with test.assertRaises(error) as caught:
        call(*args, **more)
    test.assertIs(type(caught.exception), error)
    return tuple(vars(caught.exception).values())


def plain_least(named, rows, good):
    """The least table by rounds of refining, state by state (for small tables)."""
    signs = all_signs()

    def moved(state, sign):
        return rows[state][named.index(sign) if sign in named else len(named)]

    met = [0]
    for state in met:
        for sign in signs:
            if moved(state, sign) not in met:
                met.append(moved(state, sign))
    classes = {state: state in good for state in met}
    while True:
        told = {s: (classes[s], tuple(classes[moved(s, sign)] for sign in signs)) for s in met}
        numbers = {one: k for k, one in enumerate(dict.fromkeys(told.values()))}
        finer = {s: numbers[told[s]] for s in met}
        if len(set(finer.values())) == len(set(classes.values())):
            break
        classes = finer
    lots = {}
    for sign in signs:
        lots.setdefault(tuple(finer[moved(s, sign)] for s in met), []).append(sign)
    rest = max(lots.values(), key=lambda lot: (len(lot), -signs.index(lot[0])))
    least_named = [sign for sign in signs if sign not in rest]
    asked = least_named + [rest[0]]
    order, leader = [finer[0]], {finer[s]: s for s in reversed(met)}
    for number in order:
        for sign in asked:
            if finer[moved(leader[number], sign)] not in order:
                order.append(finer[moved(leader[number], sign)])
    least_rows = tuple(tuple(order.index(finer[moved(leader[k], sign)]) for sign in asked) for k in order)
    return "".join(least_named), least_rows, tuple(k for k, c in enumerate(order) if leader[c] in good)


def plain_kinds(tongue_text, text):
    """The kinds of a text, sentence by sentence as they are told of tongues."""
    rules = [line.split(" ") for line in tongue_text.split("\n")] if tongue_text else []
    kinds, place = "", 0
    while place < len(text):
        openers = [rule for rule in rules if text.startswith(rule[1], place)]
        if not openers:
            kinds, place = kinds + "c", place + 1
            continue
        rule = max(openers, key=lambda one: len(one[1]))
        end = plain_end(rule, text, place + len(rule[1]))
        kinds, place = kinds + rule[0][0] * (end - place), end
    return kinds


def plain_end(rule, text, place):
    """The place behind a piece whose opening mark ends at a place."""
    opener, closer, options = rule[1], rule[3], rule[4:]
    escape = options[options.index("escape") + 1] if "escape" in options else None
    most = int(options[options.index("nested") + 1]) if "nested" in options else None
    depth = 1
    while place < len(text):
        closes = closer != "line" and text.startswith(closer, place)
        opens = text.startswith(opener, place)
        if text[place] == escape:
            place = min(place + 2, len(text))
        elif "doubled" in options and text.startswith(closer + closer, place):
            place += 2 * len(closer)
        elif most and (closes or (opens and depth < most)):
            if opens and depth < most and (not closes or len(opener) > len(closer)):
                depth, place = depth + 1, place + len(opener)
            else:
                depth, place = depth - 1, place + len(closer)
                if depth == 0:
                    return place
        elif not most and closes:
            return place + len(closer)
        elif text[place] == "\n" and (closer == "line" or "line" in options):
            return place
        else:
            place += 1
    return place


def any_mark(source, signs):
    return "".join(source.choice(signs) for _ in range(source.choice([1, 1, 1, 2, 2, 3, 4])))


def any_rule(source, signs):
    """A rule with any options that may stand together."""
    opener = any_mark(source, signs)
    words = [source.choice(["remark", "quote"]), opener, "to"]
    words.append(source.choice(["line", opener, any_mark(source, signs), any_mark(source, signs)]))
    if words[0] == "remark" and words[3] not in ("line", opener) and source.random() < 0.5:
        words += ["nested", source.choice("234")]
    if source.random() < 0.4:
        words += ["escape", source.choice(signs)]
    if words[3] != "line" and "nested" not in words and source.random() < 0.5:
        words.append("doubled")
    if words[3] != "line" and source.random() < 0.4:
        words.append("line")
    return " ".join(words)


def any_tongue(source, signs, many):
    """A tongue of up to so many rules, the marks of which are of these signs."""
    rules = {}
    for _ in range(many):
        rule = any_rule(source, signs)
        rules[rule.split(" ")[1]] = rule
    return Tongue("\n".join(rules.values()))


def any_text(source, signs, most):
    return "".join(source.choice(signs) for _ in range(source.randint(0, most)))


def tongue_of_weight(weight):
    """A tongue with this weight, of rules with unlike marks."""
    rules = []
    left = weight - 1
    starts = list("!#&*+,")
    while left:
        opener = starts.pop()
        size = min(left, 20 if left >= 20 else 9)
        if size == 20:
            rules.append(f"remark {opener} to '''' nested 4 escape ;")
        elif size == 9:
            rules.append(f"quote {opener} to '''' escape ; doubled")
        elif size == 8:
            rules.append(f"quote {opener} to '''' doubled")
        elif size > 4:
            rules.append(f"quote {opener + ':' * (size - 4)} to ''''")
        else:
            rules.append(f"quote {opener} to " + "'" * size)
        left -= size
    tongue = Tongue("\n".join(rules))
    assert tongue.weight == weight, (tongue.weight, weight)
    return tongue


def any_plain_test(source, signs):
    """A plain line test; the words are of these signs, of which a newline is left out."""
    word = source.choice(["all", "last", "number", "short", "begins", "ends", "has", "is"])
    if word in ("all", "last"):
        return plain_test(word)
    if word in ("number", "short"):
        return plain_test(word, source.randint(1, 3))
    return plain_test(word, any_text(source, signs.replace("\n", ""), 2))


def any_linetest(source, signs):
    test = any_plain_test(source, signs)
    if source.random() < 0.3:
        test = range_test(test, any_plain_test(source, signs))
    return other_test(test) if source.random() < 0.3 else test


def any_leaf(source, signs, kinds):
    """A leaf of a guard, one that asks for kinds only if kinds is true."""
    word = source.choice(signs) + any_text(source, signs, 2)
    kind = source.choice(["code", "quotes", "remarks"])
    makers = [
        lambda: guards.text_guard(source.choice(["begins", "ends", "has", "is"]), word),
        lambda: guards.text_guard("is", any_text(source, signs, 1)),
        lambda: guards.places_guard(word, source.randint(0, 2)), lambda: guards.signs_guard(source.randint(0, 4)),
        lambda: guards.lines_guard(any_linetest(source, signs), source.randint(0, 2)),
        lambda: guards.each_line_guard(any_linetest(source, signs)),
        lambda: guards.some_line_guard(any_linetest(source, signs)),
        lambda: guards.order_guard(any_linetest(source, signs), any_linetest(source, signs)),
        lambda: guards.paired_guard("a", "b", source.randint(1, 2))]
    if kinds:
        makers = [
            guards.closed_guard, lambda: guards.kind_guard(source.choice(["has", "each"]), word, kind),
            lambda: guards.paired_guard("a", "b", source.randint(1, 2), kind), source.choice(makers)]
    return source.choice(makers)()


def any_guard(source, signs, kinds, levels):
    """A guard with up to so many levels."""
    how = source.choice(["leaf", "not", "and", "or"]) if levels else "leaf"
    if how == "leaf":
        return any_leaf(source, signs, kinds)
    if how == "not":
        return guards.not_guard(any_guard(source, signs, kinds, levels - 1))
    parts = [any_guard(source, signs, kinds, levels - 1) for _ in range(source.choice([2, 2, 3]))]
    while sum(len(part.leaves) for part in parts) > 12:
        parts = [any_leaf(source, signs, kinds) for _ in parts]
    return guards.and_guard(parts) if how == "and" else guards.or_guard(parts)


def goings_on(sentences):
    """For each beginning of the sentences of a form the words that can come next; None where one may end.

    Sentences are sequences of words: names and brackets as they are, and for
    the others "quoted" or "number" behind a colon.
    """
    nexts = {}
    for sentence in sentences:
        for at in range(len(sentence)):
            nexts.setdefault(sentence[:at], set()).add(sentence[at])
        nexts.setdefault(sentence, set()).add(None)
    return nexts


def wrong_column(nexts, line):
    """The column at which a line goes wrong, None if it has the form."""
    ahead = ()
    for kind, value, column in line_words(line):
        word = value if kind in ("name", "bracket") else ":" + kind
        if word not in nexts[ahead]:
            return value if kind in ("bad number", "bad quoted") and ":" + kind[4:] in nexts[ahead] else column
        ahead += (word,)
    return None if None in nexts[ahead] else len(line) + 1


def linetest_sentences():
    """All sequences of words that are line tests."""
    plain = [("all",), ("last",), ("short", ":number"), ("number", ":number")]
    plain += [(word, ":quoted") for word in ("begins", "ends", "has", "is")]
    tests = plain + [("from", *one, "to", *two) for one in plain for two in plain]
    return set(tests) | {("not", *test) for test in tests}


def spoilt_lines(source, sentences, many):
    """Lines with the forms of sentences, most of them with some words put in, left out or exchanged."""
    words = sorted({word for one in sentences for word in one}) + [
        "to", "not", "all", ":quoted", ":number", ":bad number", ":bad quoted", ":bad sign", "(", ")", "zebra"]
    told = {
        ":quoted": ['"a"', '""', '"\\"\\\\"', '"abcdefg"'], ":number": ["1", "0", "99", "7"],
        ":bad number": ["01", "1234567890", "00"], ":bad quoted": ['"a\\t"', '"\t"', '"a'], ":bad sign": ["A", "-", "\t"]}
    choices = sorted(sentences)
    for _ in range(many):
        line = list(source.choice(choices))
        for _ in range(source.choice([0, 0, 1, 1, 2])):
            at = source.randint(0, len(line))
            line[at:at + source.choice([0, 1])] = source.choice([[], [source.choice(words)], [source.choice(words)]])
        parts = [source.choice(told.get(word, [word])) for word in line]
        yield source.choice(["", " "]) + source.choice([" ", "  "]).join(parts) + source.choice(["", "", "  "])


def any_step(source, signs, kinds):
    """A step, one that asks for kinds only if kinds is true."""
    word = source.choice(signs) + any_text(source, signs, 1)
    plain = source.choice(signs.replace("\n", "")) + any_text(source, signs.replace("\n", ""), 1)
    patch, test = any_text(source, signs, 2), any_linetest(source, signs)
    kind = source.choice(["code", "quotes", "remarks"])
    makers = [
        lambda: steps.replace_step(word, patch), lambda: steps.first_step(word, patch),
        lambda: steps.once_step(word, patch),
        lambda: steps.replace_step(plain, patch.replace("\n", ""), test=test), lambda: steps.drop_step(test),
        lambda: steps.keep_step(test), lambda: steps.put_step(source.choice(["ahead", "behind"]), plain, test),
        lambda: steps.put_step(source.choice(["above", "below"]), patch.replace("\n", ""), test),
        lambda: steps.strip_step(plain, test), lambda: steps.want_step(any_guard(source, signs, False, 1))]
    if kinds:
        makers += [lambda: steps.replace_step(word, patch, kind), lambda: steps.replace_step(word, patch, kind),
                   lambda: steps.want_step(any_guard(source, signs, True, 1))]
    return source.choice(makers)()


def any_script(source, signs, most, tongue=None):
    """A script of up to so many steps, which does not grow too much."""
    while True:
        told = [any_step(source, signs, tongue is not None) for _ in range(source.randint(0, most))]
        try:
            return Script(told, tongue)
        except TooMany:
            pass


def plain_places(step, text, tongue):
    """The places that a step of words takes from the left."""
    size, kinds = len(step.old), plain_kinds(tongue.text if tongue else "", text)
    lines, place, taken = text.split("\n"), 0, []
    while place < len(text):
        fits = text[place:place + size] == step.old
        if step.kind is not None:
            fits = fits and set(kinds[place:place + size]) == {step.kind[0]}
        if step.test is not None:
            fits = fits and step.test.truths(lines)[text[:place].count("\n")]
        if fits and not (step.word == "first" and taken):
            taken.append(place)
        place += size if fits and step.word != "once" else 1
    return taken


def plain_fates(step, text, tongue=None):
    """Which signs stay by one step, and what it puts into each gap; None if it refuses."""
    stays, puts = [True] * len(text), [""] * (len(text) + 1)
    if step.word == "want":
        return (stays, puts) if step.guard.holds_of(text, tongue) else None
    if step.old is not None and step.word != "strip":
        places = plain_places(step, text, tongue)
        if step.word == "once" and len(places) != 1:
            return None
        for place in places:
            stays[place:place + len(step.old)] = [False] * len(step.old)
            puts[place + len(step.old)] = step.new
        return stays, puts
    lines = text.split("\n")
    left = False
    for number, truth in enumerate(step.test.truths(lines)):
        start = sum(len(line) + 1 for line in lines[:number])
        end = start + len(lines[number])
        if step.word in ("drop", "keep"):
            goes = truth == (step.word == "drop")
            if start and (goes or not left):
                stays[start - 1] = False
            if goes:
                stays[start:end] = [False] * (end - start)
            left = left or not goes
        elif truth and step.word == "strip" and lines[number][:len(step.old)] == step.old:
            stays[start:start + len(step.old)] = [False] * len(step.old)
        elif truth and step.word in ("ahead", "above"):
            puts[start] = step.new + ("\n" if step.word == "above" else "")
        elif truth and step.word in ("behind", "below"):
            puts[end] = ("\n" if step.word == "below" else "") + step.new
    return stays, puts


def plain_result(text, fates):
    """The text that is left, gap by gap."""
    stays, puts = fates
    parts = [puts[0]]
    for sign, stay, put in zip(text, stays, puts[1:]):
        parts += [sign if stay else "", put]
    return "".join(parts)


def plain_run(script, text):
    """The texts of a run, and the number of the step that refuses, or None: line by line and place by place."""
    texts = [text]
    for number, step in enumerate(script.steps):
        done = plain_done(step, texts[-1], script.tongue)
        if done is None:
            return texts, number
        texts.append(done)
    return texts, None


def plain_done(step, text, tongue):
    """What a step makes of a text, None if it refuses it."""
    if step.word == "want":
        return text if step.guard.holds_of(text, tongue) else None
    if step.old is not None and step.word != "strip":
        places = plain_places(step, text, tongue)
        if step.word == "once" and len(places) != 1:
            return None
        for place in reversed(places):
            text = text[:place] + step.new + text[place + len(step.old):]
        return text
    told = []
    for line, truth in zip(text.split("\n"), step.test.truths(text.split("\n"))):
        if step.word in ("drop", "keep"):
            told += [line] if truth == (step.word == "keep") else []
        elif truth:
            told += {"ahead": lambda: [step.new + line], "behind": lambda: [line + step.new],
                     "above": lambda: [step.new, line], "below": lambda: [line, step.new],
                     "strip": lambda: [line[len(step.old):] if line.startswith(step.old) else line]}[step.word]()
        else:
            told.append(line)
    return "\n".join(told)
