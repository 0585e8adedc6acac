"""Tables of states: [5] to [7]."""

import random
import unittest

from tests.support import plain_least, texts_up_to, told_error
from textworkshop.errors import TooMany
from textworkshop.signs import all_signs
from textworkshop.statetables import StateTable, table_of, table_of_ways

SIGNS = all_signs()


def any_rows(source, states, named):
    rows = [[source.randrange(states) for _ in range(len(named) + 1)] for _ in range(states)]
    good = [state for state in range(states) if source.random() < 0.4]
    return rows, good


def fields(table):
    return table.named, table.rows, table.good


def plain_has(named, rows, good, text):
    state = 0
    for sign in text:
        state = rows[state][named.index(sign) if sign in named else len(named)]
    return state in good


class StateTableTest(unittest.TestCase):
    def test_least_table_of_any_small_table(self):
        source = random.Random(1)
        for _ in range(400):
            named = "".join(source.sample("\n ab~", source.randint(0, 4)))
            rows, good = any_rows(source, source.randint(1, 7), named)
            table = StateTable(named, rows, good + good[:1])
            with self.subTest(named=named, rows=rows, good=good):
                self.assertEqual(fields(table), plain_least(named, rows, good))
                self.assertEqual(table.states, len(table.rows))
                self.assertEqual(fields(StateTable(*fields(table))), fields(table))
                for text in texts_up_to("\nab", 3):
                    self.assertEqual(table.is_good(table.reached(text)), plain_has(named, rows, good, text))

    def test_tables_in_which_many_signs_do_the_same(self):
        source = random.Random(2)
        for _ in range(60):
            named = "".join(source.sample(SIGNS, source.choice([60, 94, 95])))
            kinds = [[source.randrange(4) for _ in range(4)] for _ in range(source.randint(1, 4))]
            columns = [source.choice(kinds) for _ in range(len(named) + 1)]
            rows = [[column[state] for column in columns] for state in range(4)]
            good = [state for state in range(4) if source.random() < 0.5]
            self.assertEqual(fields(StateTable(named, rows, good)), plain_least(named, rows, good))

    def test_two_states_are_never_alike_and_each_is_met(self):
        source = random.Random(3)
        for _ in range(40):
            rows, good = any_rows(source, 6, "ab")
            table = StateTable("ab", rows, good)
            tails = list(texts_up_to("ab ", 5))
            told = {tuple(table.is_good(self.behind(table, state, tail)) for tail in tails)
                    for state in range(table.states)}
            self.assertEqual(len(told), table.states)
            self.assertEqual({table.reached(text) for text in texts_up_to("ab ", 6)}, set(range(table.states)))

    def behind(self, table, state, text):
        for sign in text:
            state = table.moved(state, sign)
        return state

    def test_signs_that_act_as_the_rest_are_not_named(self):
        self.assertEqual(fields(StateTable("xay", [[0, 1, 0, 0], [0, 1, 0, 0]], [1])), ("a", ((1, 0), (1, 0)), (1,)))
        self.assertEqual(fields(StateTable("xy", [[0, 0, 0]], [0])), ("", ((0,),), (0,)))
        self.assertEqual(fields(StateTable("x", [[1, 0], [0, 1]], [0, 1])), ("", ((0,),), (0,)))

    def test_a_rest_that_is_smaller_than_a_named_lot_is_named_itself(self):
        named = SIGNS[:90]
        rows = [[1] * 90 + [0], [1] * 91]
        table = StateTable(named, rows, [1])
        self.assertEqual(fields(table), (SIGNS[90:], ((0,) * 5 + (1,), (1,) * 6), (1,)))

    def test_all_signs_told_and_the_last_entry_plays_no_part(self):
        rows = [[1 if sign == "a" else 0 for sign in SIGNS] + [2], [1] * 95 + [2], [2] * 96]
        table = StateTable(SIGNS, rows, [1])
        self.assertEqual(fields(table), ("a", ((1, 0), (1, 1)), (1,)))
        self.assertEqual(table, StateTable("a", [[1, 0], [1, 1]], [1]))

    def test_of_several_greatest_lots_the_one_with_the_least_sign_is_the_rest(self):
        some, others = SIGNS[0:94:2], SIGNS[1:95:2]
        for first in (some, others):
            rows = [[1 if sign in first else 0 for sign in SIGNS[:94]] + [2], [1] * 95, [2] * 95]
            table = StateTable(SIGNS[:94], rows, [1])
            self.assertEqual(table.named, others + SIGNS[94])
        three = [[ord(sign) % 3 for sign in SIGNS] + [0]] + [[k] * 96 for k in (1, 2)]
        told = StateTable(SIGNS, three, [1])
        self.assertEqual(fields(told), plain_least(SIGNS, three, [1]))

    def test_states_that_no_text_meets_are_dropped(self):
        rows = [[0, 0], [2, 1], [1, 3], [0, 0]]
        self.assertEqual(fields(StateTable("a", rows, [1, 2])), ("", ((0,),), ()))
        self.assertEqual(fields(StateTable("a", rows, [0, 1])), ("", ((0,),), (0,)))

    def test_states_are_numbered_as_they_are_met(self):
        rows = [[3, 2, 1], [1, 1, 1], [2, 2, 3], [0, 3, 2]]
        table = StateTable("ba", rows, [1])
        self.assertEqual(table.named, "ab")
        self.assertEqual(fields(table), plain_least("ba", rows, [1]))

    def test_moves(self):
        table = StateTable("ba", [[0, 1, 0], [2, 1, 0], [2, 2, 2]], [2])
        self.assertEqual([table.moved(0, sign) for sign in "ab \n~"], [1, 0, 0, 0, 0])
        self.assertEqual([table.moved(1, sign) for sign in "ab \n~"], [1, 2, 0, 0, 0])
        self.assertEqual([table.reached(text) for text in ("", "a", "xa", "xab", "xab\n\n")], [0, 1, 1, 2, 2])
        self.assertEqual([table.is_good(state) for state in range(3)], [False, False, True])

    def test_equality(self):
        one = StateTable("ab", [[1, 0, 0], [1, 0, 1]], [1])
        same = StateTable("a", [[2, 0], [2, 2], [1, 2]], (2, 1, 1))
        other = StateTable("ab", [[1, 0, 0], [1, 0, 1]], [0])
        self.assertTrue(one != other and not one == other)
        self.assertTrue(StateTable("b", [[0, 1], [1, 1]], [1]) != StateTable("c", [[0, 1], [1, 1]], [1]))
        self.assertEqual(same, StateTable("a", [[1, 0], [1, 1]], [1]))
        for value in (None, 5, one.rows, (one.named, one.rows, one.good), object(), "ab"):
            self.assertFalse(one == value)

    def test_what_is_passed_is_copied_and_not_changed(self):
        rows, good = [[1, 0], [1, 1]], [1, 1]
        table = StateTable("a", rows, good)
        self.assertEqual((rows, good), ([[1, 0], [1, 1]], [1, 1]))
        rows[0][0] = 0
        rows.append([])
        good.append(0)
        self.assertEqual(fields(table), ("a", ((1, 0), (1, 1)), (1,)))
        self.assertEqual(fields(StateTable(named="a", rows=((1, 0), (1, 1)), good=(1,))), fields(table))

    def test_long_chains_become_least(self):
        many = 20000
        rows = [[min(k + 1, many), k] for k in range(many + 1)]
        self.assertEqual(StateTable("a", rows, [many]).states, many + 1)
        self.assertEqual(StateTable("a", rows, list(range(many))).states, many + 1)
        rows = [[(k + 1) * 1 % many, k] for k in range(many)]
        self.assertEqual(StateTable("a", rows, list(range(0, many, 2))).states, 2)


class TableOfTest(unittest.TestCase):
    def test_machine_of_the_caller(self):
        table = table_of(("", False), lambda s, c: (c or "?", s[1] or (s[0] == "a" and c == "b")), lambda s: s[1], "ab")
        for text in texts_up_to("ab\n", 4):
            self.assertEqual(table.is_good(table.reached(text)), "ab" in text)
        self.assertEqual(table, StateTable("ab", [[1, 0, 0], [1, 2, 0], [2, 2, 2]], [2]))

    def test_it_is_asked_for_none_only_if_there_are_other_signs(self):
        for named in ("", "b", SIGNS[:94], SIGNS):
            asked = []

            def step(state, sign):
                asked.append((state, sign))
                return state

            table_of(7, step, lambda state: True, named)
            wanted = list(named) + ([None] if len(named) < 95 else [])
            self.assertEqual(sorted(asked, key=str), sorted([(7, sign) for sign in wanted], key=str))

    def test_equal_states_are_one(self):
        seen = []

        def is_good(state):
            seen.append(state)
            return state == 1

        table = table_of(0, lambda state, sign: True if state == 0 else False, is_good, "")
        self.assertEqual((table.states, len(seen)), (2, 2))
        self.assertEqual([table.is_good(table.reached(" " * k)) for k in range(4)], [False, True, False, True])

    def test_states_by_breadth(self):
        asked = []

        def step(state, sign):
            if state not in asked:
                asked.append(state)
            return state if len(state) == 2 else state + (sign or "-")

        table_of("", step, lambda state: False, "ab")
        self.assertEqual([len(state) for state in asked], sorted(len(state) for state in asked))
        self.assertEqual(len(asked), 1 + 3 + 9)

    def test_20000_states_and_one_more(self):
        def chain(last):
            return table_of(0, lambda s, c: min(s + 1, last) if c else s, lambda s: s == last, "a")

        self.assertEqual(chain(19999).states, 20000)
        self.assertEqual(told_error(self, TooMany, chain, 20000), ("states", 20001, 20000))
        alike = table_of(0, lambda s, c: (s + 1) % 20000, lambda s: True, "")
        self.assertEqual(alike.states, 1)
        with self.assertRaises(TooMany):
            table_of(0, lambda s, c: (s + 1) % 20001, lambda s: True, "")

    def test_all_signs_named_and_no_rest_is_counted(self):
        def step(state, sign):
            return (state + 1) % 20000 if sign == "a" else state if sign else 99999

        self.assertEqual(table_of(0, step, lambda s: s == 0, SIGNS).states, 20000)

    def test_names_of_the_arguments(self):
        table = table_of(first=0, step=lambda s, c: s, is_good=lambda s: True, named="")
        self.assertEqual(table, table_of_ways(firsts=(0,), steps=lambda s, c: (s,), is_good=lambda s: True, named=""))


class TableOfWaysTest(unittest.TestCase):
    def test_any_ways(self):
        source = random.Random(4)
        for _ in range(60):
            many = source.randint(1, 5)
            ways = {(k, sign): tuple(source.choices(range(many), k=source.choice([0, 1, 1, 2, 3])))
                    for k in range(many) for sign in ("a", "b", None)}
            firsts = tuple(source.choices(range(many), k=source.choice([0, 1, 2, 3])))
            good = [k for k in range(many) if source.random() < 0.4]
            table = table_of_ways(firsts, lambda s, c: ways[s, c], lambda s: s in good, "ba")
            for text in texts_up_to("ab\n", 4):
                states = set(firsts)
                for sign in text:
                    states = {to for s in states for to in ways[s, sign if sign in "ab" else None]}
                self.assertEqual(table.is_good(table.reached(text)), any(s in good for s in states))

    def test_no_ways_at_all(self):
        self.assertEqual(fields(table_of_ways((), lambda s, c: (s,), lambda s: True, "a")), ("", ((0,),), ()))
        none = table_of_ways((1,), lambda s, c: (), lambda s: True, "")
        self.assertEqual([none.is_good(none.reached(text)) for text in ("", "a", "aa")], [True, False, False])

    def test_sets_of_states_are_counted_and_not_states(self):
        many = tuple(range(25000))
        self.assertEqual(table_of_ways(many, lambda s, c: (s,), lambda s: s == 0, "a").states, 1)

        def last(length):
            return table_of_ways((0,), lambda s, c: ((0, 1) if c else (0,)) if s == 0 else
                                 (s + 1,) if s < length else (), lambda s: s == length, "b")

        self.assertEqual(last(14).states, 2 ** 14)
        self.assertEqual(told_error(self, TooMany, last, 15), ("states", 20001, 20000))

    def test_20000_sets_and_one_more(self):
        def ring(many):
            return table_of_ways((0, many), lambda s, c: ((s + 1) % many if s < many else s,),
                                 lambda s: s == 0, "a")

        self.assertEqual(ring(20000).states, 20000)
        self.assertEqual(told_error(self, TooMany, ring, 20001), ("states", 20001, 20000))


if __name__ == "__main__":
    unittest.main()
