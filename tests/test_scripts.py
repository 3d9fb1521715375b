"""Points 61, 64 and 65: scripts."""

import itertools
import unittest

from gazette.edits import apply_edits, in_order
from gazette.errors import NotInOrder
from gazette.scripts import edits_of, inverse_script, normal_form, run_script, script_of
from support import KEEP, Case, insert, remove, short_scripts

TEXT = ("a", "b", "c")


class ScriptOfTest(Case):
    def test_steps_of_each_edit(self):
        edits = ((1, ("b", "c"), ("p", "q")), (3, (), ("r",)), (5, ("f",), ()))
        expected = (
            KEEP, remove("b"), remove("c"), insert("p"), insert("q"), insert("r"), KEEP, KEEP, remove("f"),
        )
        self.same(script_of(edits), expected)

    def test_no_steps_after_the_last_edit(self):
        self.same(script_of(((0, ("a",), ()),)), (remove("a"),))
        self.same(script_of(()), ())
        self.same(script_of(((2, (), ()),)), (KEEP, KEEP))
        self.same(script_of(((0, (), ()),)), ())

    def test_not_the_normal_form(self):
        edits = ((0, (), ("x",)), (0, ("a",), ()))
        self.same(script_of(edits), (insert("x"), remove("a")))

    def test_several_insertions_at_one_position(self):
        self.same(script_of(((1, (), ("x",)), (1, (), ("y",)), (1, (), ("x",)))), (KEEP, *map(insert, "xyx")))

    def test_not_in_order(self):
        for edits in (
            ((1, (), ("x",)), (0, (), ("y",))),
            ((0, ("a", "b"), ()), (1, ("b",), ())),
            ((0, ("a",), ()), (0, ("a",), ())),
        ):
            with self.assertRaises(NotInOrder):
                script_of(edits)

    def test_does_what_the_edits_do(self):
        single = [
            (position, TEXT[position:position + many], added)
            for position in range(4) for many in range(4 - position) for added in ((), ("x", "y"))
        ]
        for edits in itertools.product(single, repeat=2):
            if in_order(edits):
                self.same(run_script(script_of(edits), TEXT), apply_edits(TEXT, edits))


class RunScriptTest(Case):
    def test_each_step(self):
        self.same(run_script((KEEP, remove("b"), insert("x"), KEEP), TEXT), ("a", "x", "c"))
        self.same(run_script((insert("x"), insert("y"), remove("a"), insert("z")), TEXT), ("x", "y", "z", "b", "c"))

    def test_the_empty_script(self):
        self.same(run_script((), TEXT), TEXT)
        self.same(run_script((), ()), ())

    def test_a_script_that_ends_before_the_text(self):
        self.same(run_script((remove("a"),), TEXT), ("b", "c"))
        self.same(run_script((insert("x"),), TEXT), ("x", "a", "b", "c"))

    def test_a_script_that_ends_with_the_text(self):
        self.same(run_script((KEEP, KEEP, KEEP, insert("x")), TEXT), ("a", "b", "c", "x"))
        self.same(run_script((insert("x"),), ()), ("x",))

    def test_a_script_that_goes_beyond_the_text(self):
        self.same(run_script((KEEP,) * 4, TEXT), None)
        self.same(run_script((KEEP, KEEP, KEEP, remove("c")), TEXT), None)
        self.same(run_script((KEEP,), ()), None)
        self.same(run_script((insert("a"), remove("a")), ()), None)

    def test_a_removal_of_another_line(self):
        self.same(run_script((remove("b"),), TEXT), None)
        self.same(run_script((KEEP, remove("a")), TEXT), None)
        self.same(run_script((insert("x"), remove("x")), TEXT), None)


class NormalFormTest(Case):
    def test_removals_first_in_each_gap(self):
        script = (insert("x"), remove("a"), insert("y"), remove("b"), KEEP, insert("z"), KEEP, insert("w"), remove("c"))
        expected = (
            remove("a"), remove("b"), insert("x"), insert("y"), KEEP, insert("z"), KEEP, remove("c"), insert("w"),
        )
        self.same(normal_form(script), expected)

    def test_without_keeps(self):
        self.same(normal_form((insert("x"), remove("a"))), (remove("a"), insert("x")))
        self.same(normal_form(()), ())

    def test_gaps_without_steps(self):
        self.same(normal_form((KEEP, KEEP)), (KEEP, KEEP))
        script = (KEEP, KEEP, insert("x"), remove("a"), KEEP, KEEP)
        self.same(normal_form(script), (KEEP, KEEP, remove("a"), insert("x"), KEEP, KEEP))

    def test_does_the_same_to_every_text(self):
        texts = [text for many in range(3) for text in itertools.product(("a", "b"), repeat=many)]
        for script in short_scripts(3):
            normal = normal_form(script)
            self.same(normal_form(normal), normal)
            for text in texts:
                self.same(run_script(normal, text), run_script(script, text))


class EditsOfTest(Case):
    def test_an_edit_for_each_gap_with_steps(self):
        script = (insert("x"), remove("a"), KEEP, KEEP, remove("d"), remove("e"), KEEP, insert("y"))
        expected = ((0, ("a",), ("x",)), (3, ("d", "e"), ()), (6, (), ("y",)))
        self.same(edits_of(script), expected)

    def test_without_keeps(self):
        self.same(edits_of((insert("x"), remove("a"), insert("y"))), ((0, ("a",), ("x", "y")),))
        self.same(edits_of(()), ())

    def test_a_keep_with_nothing_behind_it(self):
        self.same(edits_of((KEEP,)), ((1, (), ()),))
        self.same(edits_of((KEEP, KEEP)), ((2, (), ()),))
        self.same(edits_of((remove("a"), insert("x"), KEEP, KEEP)), ((0, ("a",), ("x",)), (3, (), ())))

    def test_a_keep_with_something_behind_it(self):
        self.same(edits_of((KEEP, insert("x"))), ((1, (), ("x",)),))
        self.same(edits_of((KEEP, remove("b"))), ((1, ("b",), ()),))

    def test_their_script_is_the_normal_form(self):
        for script in short_scripts(4):
            self.same(in_order(edits_of(script)), True)
            self.same(script_of(edits_of(script)), normal_form(script))


class InverseScriptTest(Case):
    def test_exchanged(self):
        script = (insert("x"), KEEP, remove("a"), insert("a"))
        self.same(inverse_script(script), (remove("x"), KEEP, insert("a"), remove("a")))
        self.same(inverse_script(()), ())

    def test_leads_back(self):
        for script in short_scripts(3):
            self.same(inverse_script(inverse_script(script)), script)
            for text in itertools.product(("a", "b"), repeat=2):
                result = run_script(script, text)
                if result is not None:
                    self.same(run_script(inverse_script(script), result), text)


if __name__ == "__main__":
    unittest.main()
