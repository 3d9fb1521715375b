"""Points 64 to 67: composing scripts."""

import itertools
import unittest

from gazette.composing import alike, compose, least_text, parting_text
from gazette.scripts import normal_form, run_script
from support import KEEP, Case, insert, remove, short_scripts

TEXTS = [text for many in range(5) for text in itertools.product(("a", "b"), repeat=many)]


class ComposeTest(Case):
    def test_one_script(self):
        self.same(compose(((insert("x"), remove("a"), KEEP),)), (remove("a"), insert("x"), KEEP))
        self.same(compose(((),)), ())

    def test_a_removal_of_the_first_script(self):
        self.same(compose(((remove("a"),), (remove("b"),))), (remove("a"), remove("b")))
        self.same(compose(((remove("a"), KEEP), (insert("x"), KEEP))), (remove("a"), insert("x"), KEEP))

    def test_an_insertion_of_the_second_script(self):
        self.same(compose(((KEEP, KEEP), (insert("x"), KEEP))), (insert("x"), KEEP, KEEP))
        self.same(compose(((insert("y"),), (insert("x"), KEEP))), (insert("x"), insert("y")))

    def test_both_advance(self):
        self.same(compose(((KEEP,), (KEEP,))), (KEEP,))
        self.same(compose(((KEEP,), (remove("a"),))), (remove("a"),))
        self.same(compose(((insert("x"),), (KEEP,))), (insert("x"),))

    def test_an_insertion_meets_a_removal(self):
        self.same(compose(((insert("x"),), (remove("x"),))), ())
        self.same(compose(((insert("x"),), (remove("y"),))), None)
        self.same(compose(((insert("x"), insert("y")), (remove("x"), remove("z")))), None)
        self.same(compose(((insert("x"), insert("y")), (KEEP, remove("y")))), (insert("x"),))

    def test_remaining_steps(self):
        self.same(compose(((KEEP, insert("x")), ())), (KEEP, insert("x")))
        self.same(compose(((), (KEEP, remove("b")))), (KEEP, remove("b")))
        self.same(compose(((KEEP,), (KEEP, KEEP, insert("x")))), (KEEP, KEEP, insert("x")))
        self.same(compose(((KEEP, KEEP, remove("c")), (remove("a"),))), (remove("a"), KEEP, remove("c")))

    def test_eight_scripts(self):
        scripts = tuple((insert(line),) for line in "abcdefgh")
        self.same(compose(scripts), tuple(insert(line) for line in "hgfedcba"))
        scripts = ((insert("x"),), (remove("x"),)) * 4
        self.same(compose(scripts), ())
        self.same(compose((*scripts[:7], (remove("y"),))), None)
        self.same(compose(((insert("x"),), (remove("y"),), *scripts[:6])), None)

    def test_from_the_first_script_on(self):
        scripts = ((KEEP, insert("x")), (remove("a"),), (remove("x"), insert("y")))
        self.same(compose(scripts), (remove("a"), insert("y")))

    def test_does_what_the_scripts_do_one_after_the_other(self):
        for first in short_scripts(2):
            for second in short_scripts(2):
                composed = compose((first, second))
                for text in TEXTS:
                    middle = run_script(first, text)
                    result = None if middle is None else run_script(second, middle)
                    if composed is not None:
                        self.same(run_script(composed, text), result)
                    self.assertFalse(composed is None and result is not None)

    def test_three_scripts(self):
        scripts = [script for script in short_scripts(2) if len(script) == 2][::2]
        for chosen in itertools.product(scripts, repeat=3):
            composed = compose(chosen)
            if composed is not None:
                self.same(normal_form(composed), composed)
                text = least_text(composed, "a")
                result = text
                for script in chosen:
                    result = run_script(script, result)
                self.same(run_script(composed, text), result)


class AlikeTest(Case):
    def test_equal_normal_forms(self):
        self.same(alike((insert("x"), remove("a")), (remove("a"), insert("x"))), True)
        self.same(alike((), ()), True)
        self.same(alike((insert("x"), insert("y")), (insert("y"), insert("x"))), False)
        self.same(alike((KEEP, insert("x")), (insert("x"), KEEP)), False)
        self.same(alike((KEEP,), ()), False)


class LeastTextTest(Case):
    def test_keeps_and_removals(self):
        self.same(least_text((KEEP, insert("x"), remove("b"), KEEP), "f"), ("f", "b", "f"))
        self.same(least_text((insert("x"), insert("y")), "f"), ())
        self.same(least_text((), "f"), ())
        self.same(least_text((remove(""), KEEP), ""), ("", ""))

    def test_no_shorter_text(self):
        for script in short_scripts(3):
            text = least_text(script, "a")
            self.assertIsNotNone(run_script(script, text))
            for shorter in TEXTS:
                if len(shorter) < len(text):
                    self.same(run_script(script, shorter), None)


class PartingTextTest(Case):
    def test_alike(self):
        self.same(parting_text((insert("x"), remove("a")), (remove("a"), insert("x"))), None)
        self.same(parting_text((), ()), None)

    def test_the_least_text_of_the_first(self):
        self.same(parting_text((remove("a"),), (remove("b"),)), ("a",))
        self.same(parting_text((KEEP,), (remove("b"),)), ("",))
        self.same(parting_text((insert("p"), KEEP), (KEEP, insert("p"))), ("",))

    def test_the_least_text_of_the_second(self):
        self.same(parting_text((), (remove("b"),)), ())
        self.same(parting_text((), (KEEP, insert("p"))), ())
        self.same(parting_text((insert("p"), insert("q")), (insert("p"), insert("q"), KEEP)), ())
        self.same(parting_text((insert("p"), KEEP), (insert("p"), KEEP, KEEP)), ("",))
        self.same(parting_text((remove("b"), insert("b")), (KEEP,)), ("",))

    def test_the_filler_is_the_first_line_that_no_step_has(self):
        first = (KEEP, insert(""))
        self.same(parting_text(first, (insert(""), KEEP)), ("x",))
        self.same(parting_text((*first, insert("x")), (insert(""), KEEP, insert("x"))), ("xx",))
        self.same(parting_text((KEEP, insert("x")), (insert("x"), KEEP)), ("",))
        first = (KEEP, *map(insert, ("xx", "", "x", "xxxx")))
        self.same(parting_text(first, (*first[1:], KEEP)), ("xxx",))
        self.same(parting_text((KEEP, insert("xx")), (insert("x"), KEEP, remove(""))), ("xxx",))

    def test_lines_of_both_scripts_are_taken(self):
        self.same(parting_text((KEEP,), (remove(""),)), ("x",))
        self.same(parting_text((KEEP, remove("x")), (remove(""), remove("x"))), ("xx", "x"))
        self.same(parting_text((remove(""), remove("x")), (KEEP, remove("x"))), ("", "x"))

    def test_every_pair_parts(self):
        scripts = list(short_scripts(3, lines=("", "x")))[::3]
        for first in scripts:
            for second in scripts:
                text = parting_text(first, second)
                self.assertEqual(text is None, alike(first, second))
                if text is not None:
                    self.assertNotEqual(run_script(first, text), run_script(second, text))


if __name__ == "__main__":
    unittest.main()
