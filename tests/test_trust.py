"""Scripts that can be trusted: [81]."""

import unittest
from random import Random

from tests.asking import SIGNS, check_first, light_script, made, result_of
from tests.support import any_guard, any_text, texts_up_to, told_error
from tests.test_desks import QUOTES, desk_with
from textworkshop.desks import Desk
from textworkshop.errors import Broken, NoFile, NoScript, Refused, TooHeavy, TooMany, Touched
from textworkshop.guards import and_guard, not_guard, signs_guard, text_guard
from textworkshop.guardtexts import read_guard
from textworkshop.scripts import Script
from textworkshop.steps import want_step
from textworkshop.tongues import Tongue
from textworkshop.trust import is_trusted, trust_gap

ABOVE = and_guard([signs_guard(39), signs_guard(59)])
HEAVIER = and_guard([signs_guard(98), signs_guard(98)])


class TrustTest(unittest.TestCase):
    def guarded(self, text, *guards, **scripts):
        desk = desk_with(text, QUOTES, **scripts)
        for guard in guards:
            desk.add_guard("f", read_guard(guard) if isinstance(guard, str) else guard)
        return desk

    def test_against_runs_of_all_short_texts(self):
        source = Random(811)
        texts = list(texts_up_to(SIGNS, 4))
        trusted = gaps = 0
        for _ in range(200):
            script, text = light_script(source, 2), any_text(source, "ab\n", 4)
            desk = self.guarded(text, p=script)
            for _ in range(source.choice([0, 1, 1, 2, 3])):
                guard = any_guard(source, "ab\n", False, 1)
                desk.add_guard("f", guard if guard.holds_of(text) else not_guard(guard))
            guards = desk.file_guards("f")

            def keeps(tried):
                return all(guard.holds_of(tried) for guard in guards)

            def shows(tried):
                result = result_of(script, tried)
                return keeps(tried) and result is not None and not keeps(result)

            try:
                told = trust_gap(desk, "f", "p")
            except TooHeavy:
                continue
            check_first(self, told, texts, shows)
            self.assertIs(is_trusted(desk=desk, name="f", label="p"), told is None)
            trusted += told is None
            gaps += told is not None
        self.assertGreater(min(trusted, gaps), 15)

    def test_files_with_no_guard_with_one_and_with_several(self):
        turn, drop = made('replace "a" by "b"'), made("drop lines last")
        desk = self.guarded("", turn=turn, drop=drop)
        self.assertEqual([is_trusted(desk, "f", "turn"), trust_gap(desk, "f", "drop")], [True, None])
        desk.add_guard("f", read_guard('not has "bb"'))
        self.assertEqual([trust_gap(desk, "f", "turn"), is_trusted(desk, "f", "turn"), is_trusted(desk, "f", "drop")],
                         ["aa", False, True])
        # Guards are taken together: the second one lets no text be broken.
        desk.add_guard("f", read_guard('not has "a"'))
        self.assertEqual([trust_gap(desk=desk, name="f", label="turn"), is_trusted(desk, "f", "drop")], [None, True])
        desk.remove_guard("f", 1)
        desk.add_guard("f", read_guard("at most 1 signs"))
        self.assertTrue(is_trusted(desk, "f", "turn"))

    def test_texts_that_are_refused_are_none(self):
        desk = self.guarded("", 'not has "b"', p=made('want not has "a"', 'replace "a" by "b"'), q=made(
            'once "a" by "b"'), r=made('want has "b"', 'replace "c" by "b"'))
        self.assertEqual([trust_gap(desk, "f", label) for label in "pqr"], [None, "a", None])

    def test_tongues_of_file_and_script(self):
        script = made('replace "\'" by "" in remarks', tongue=Tongue("remark # to line"))
        desk = self.guarded("", "closed", p=script)
        text = trust_gap(desk, "f", "p")
        self.assertTrue(QUOTES.is_closed(text) and not QUOTES.is_closed(result_of(script, text)))
        self.assertEqual(text, "'#'")

    def test_a_trusted_script_is_never_refused_with_broken(self):
        source = Random(812)
        for _ in range(60):
            script, text = light_script(source, 2), any_text(source, "aab\n", 6)
            desk = self.guarded(text, p=script)
            desk.add_guard("f", read_guard('not has "ab"' if "ab" not in text else 'has "ab"'))
            try:
                trusted = is_trusted(desk, "f", "p")
            except TooHeavy:
                continue
            for _ in range(3):
                try:
                    desk.do_script("f", "p")
                except Broken:
                    self.assertFalse(trusted)
                except (Refused, Touched):
                    pass

    def test_errors_in_their_order(self):
        desk = self.guarded("", p=made('replace "a" by "b"'), heavy=Script([want_step(HEAVIER)]))
        for ask in (is_trusted, trust_gap):
            self.assertEqual(told_error(self, NoFile, ask, desk, "g", "none"), ("g",))
            self.assertEqual(told_error(self, NoFile, ask, desk, None, None), (None,))
            self.assertEqual(told_error(self, NoScript, ask, desk, "f", "none"), ("none",))
            self.assertEqual(told_error(self, NoScript, ask, desk, "f", ["p"]), (["p"],))
            self.assertEqual(told_error(self, TooHeavy, ask, desk, "f", "heavy"), (10000,))
        desk.add_guard("f", ABOVE)
        self.assertEqual(told_error(self, NoScript, trust_gap, desk, "f", "none"), ("none",))
        self.assertEqual(told_error(self, TooHeavy, trust_gap, desk, "f", "heavy"), (2501,))
        desk.undo()
        desk.add_guard("f", HEAVIER)
        desk.add_guard("f", ABOVE)
        self.assertEqual(told_error(self, TooHeavy, trust_gap, desk, "f", "p"), (10000,))

    def test_too_many_states_ahead_of_guards_that_are_too_heavy(self):
        wide = [read_guard(f'at most 9 of "{word}"') for word in ("abcdef", "ghijkl", "mnopqr", "stuvwx")]
        desk = self.guarded("", *wide, p=made('replace "a" by "b"'))
        self.assertEqual(told_error(self, TooMany, trust_gap, desk, "f", "p"), ("states", 20001, 20000))
        desk.add_guard("f", ABOVE)
        self.assertEqual(told_error(self, TooMany, is_trusted, desk, "f", "p"), ("states", 20001, 20000))
        again = self.guarded("", wide[0], ABOVE, *wide[1:], p=made('replace "a" by "b"'))
        self.assertEqual(told_error(self, TooHeavy, is_trusted, again, "f", "p"), (2501,))

    def test_the_guards_count_twice(self):
        # The set of both together has 26 states, or 27; the script has the weight 3, or 4.
        for most, line, weight in ((24, 'replace "ab" by "c"', 3 * 26 * 26), (23, 'first "ab" by "c"', 4 * 25 * 25),
                                   (27, 'replace "ab" by "c"', 3 * 29 * 29), (24, 'first "ab" by "c"', 4 * 26 * 26)):
            desk = self.guarded("", signs_guard(most), signs_guard(99), p=made(line))
            if weight > 2500:
                self.assertEqual(told_error(self, TooHeavy, trust_gap, desk, "f", "p"), (weight,))
            else:
                self.assertTrue(is_trusted(desk, "f", "p"))

    def test_hidden_lines_play_no_part(self):
        desk = self.guarded("x\nab", 'has "x"', p=made('drop lines has "x"'))
        desk.hide_lines("f", 1, 1)
        self.assertEqual((trust_gap(desk, "f", "p"), desk["f"]), ("x", "ab"))
        desk.do_script("f", "p")

    def test_a_guard_that_is_kept_by_one_text(self):
        desk = Desk()
        desk.open_file("f", "ab")
        desk.add_guard("f", text_guard("is", "ab"))
        desk.keep_script("p", made('replace "ab" by "ab"'))
        desk.keep_script("q", made('replace "ab" by "ba"'))
        self.assertEqual([trust_gap(desk, "f", "p"), trust_gap(desk, "f", "q")], [None, "ab"])


if __name__ == "__main__":
    unittest.main()
