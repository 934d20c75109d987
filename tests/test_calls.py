import unittest

from stackwords.runner import answers
from tests.helper import CLEAR, DEPTH, Case, ask, outcome, run


class Clear(unittest.TestCase):
    def test_at_the_first(self):
        self.assertEqual(answers([1]), [1, 0])
        self.assertEqual(answers([1, 3]), [1, 0, 1, 0])
        self.assertEqual(answers([1, 1, 1]), [1, 0, 1, 0, 1, 0])

    def test_again(self):
        self.assertEqual(ask(run("1 2 3"), CLEAR, DEPTH, run("pop")), [[0, 0], [0], [0], [-3, 0]])

    def test_table_0_is_empty_and_alone(self):
        rows = ask(run("/x 1 def table begin /y 2 def"), CLEAR, run("x"), run("y"), run("end"))
        self.assertEqual(rows, [[0, 0], [0], [-6, 0], [-6, 0], [-3, 0]])

    def test_no_array_and_no_state(self):
        text = run("256 {8 array pop} repeat keep keep keep keep")
        self.assertEqual(ask(text, CLEAR, text, DEPTH), [[0, 0], [0], [0, 0], [4]])


class Run(Case):
    def test_each_answer(self):
        for text, answer in (("1", 0), ("{} loop", 1), ("}", -1), ("pop", -3), ("true neg", -4), ("1 0 mod", -5),
                             ("nothing", -6), ("33 array 2048 array", -7), ("exit", -8), ("keep dup back", -9)):
            with self.subTest(text=text):
                self.assertEqual(ask(run(text, steps=1000)), [[answer, 0]])

    def test_the_form_of_its_answer(self):
        text = list(b"7 =")
        self.assertEqual(answers([1, 2, 100, 50, 3] + text + [3]), [1, 0, 4, 0, 2, 55, 10, 1, 0])
        self.assertEqual(answers([1, 2, 100, 1, 3] + text), [1, 0, 3, 0, 2, 55])
        self.assertEqual(answers([1, 2, 1, 0, 0]), [1, 0, 2, 0, 0])
        self.assertEqual(answers([1, 2, 0, 0, 0, 2, 0, 0, 1, 125]), [1, 0, 2, 1, 0, 2, -1, 0])

    def test_all_stays_for_the_next(self):
        self.assertEqual(outcome("1 /x 5 def", "x", "add"), (0, "6"))
        self.assertEqual(outcome("table begin /x 5 def", "x"), (0, "5"))
        self.assertEqual(outcome("/a [ 1 ] def", "a 0 9 put", "a 0 get"), (0, "9"))

    def test_the_most_steps(self):
        self.assertEqual(ask(run("1 =", steps=16777216, most=3000)), [[0, 2, 49, 10]])

    def test_the_longest_text(self):
        self.assertEqual(ask(run("1 " * 256 + " " * 3584), DEPTH), [[0, 0], [256]])
        self.assertEqual(ask(run("%" + "}" * 4095), run("1" + " " * 4095), DEPTH), [[0, 0], [0, 0], [1]])


class Depth(unittest.TestCase):
    def test_how_many_things(self):
        rows = ask(DEPTH, run("1 2 [ {} /a"), DEPTH, run("pop"), DEPTH, run("clear"), DEPTH, DEPTH)
        self.assertEqual(rows, [[0], [0, 0], [5], [0, 0], [4], [0, 0], [0], [0]])

    def test_after_a_run_that_went_wrong(self):
        self.assertEqual(ask(run("1 2 nothing 3"), DEPTH, run("}"), DEPTH), [[-6, 0], [2], [-1, 0], [2]])


class Lists(unittest.TestCase):
    def calls(self):
        parts = [CLEAR, run("/x 1 def keep [ 1 2 ] = x ="), DEPTH, run("/x 2 def back x ="), CLEAR, run("x"),
                 run("{1} loop", steps=99), run("}"), DEPTH]
        return [number for part in parts for number in part]

    def test_the_list_stays_the_same(self):
        calls = self.calls()
        answers(calls)
        self.assertEqual(calls, self.calls())

    def test_a_list_that_may_not_be_changed(self):
        class Fixed(list):
            def refuse(self, *given):
                raise AssertionError("the list was changed")

            __setitem__ = __delitem__ = __iadd__ = __imul__ = append = clear = extend = insert = refuse
            pop = remove = reverse = sort = refuse

        self.assertEqual(answers(Fixed(self.calls())), answers(self.calls()))

    def test_nothing_is_kept(self):
        first = answers(self.calls())
        answers(CLEAR + run("/add 7 def table begin 256 {0 array} repeat keep"))
        self.assertEqual(answers(self.calls()), first)

    def test_whole_numbers_alone(self):
        found = answers(self.calls() + run("true = false = 1 2 lt = [ 1 ] length ="))
        self.assertIs(type(found), list)
        self.assertEqual({type(number) for number in found}, {int})

    def test_300_calls(self):
        self.assertEqual(answers([1] + run("1") * 256 + [3]), [1, 0] + [2, 0, 0] * 256 + [1, 256])
