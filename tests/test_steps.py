from tests.helper import DEPTH, Case, ask, outcome, run

STEPS_WANTED = (
    ("", 1),
    ("% nothing", 1),
    ("1", 2),
    ("1 2 add", 4),
    ("{} pop", 3),
    ("{} exec", 4),
    ("{1 2} exec", 6),
    ("true {1} if", 6),
    ("false {1} if", 4),
    ("true {1} {2 3} ifelse", 7),
    ("false {1} {2 3} ifelse", 8),
    ("0 {} repeat", 5),
    ("2 {1} repeat", 11),
    ("{exit} loop", 5),
    ("0 {1 add dup 3 eq {exit} if} loop", 31),
    ("1 1 0 {} for", 7),
    ("1 1 3 {} for", 13),
    ("1 1 3 {pop} for", 16),
    ("[ ] {} forall", 6),
    ("[ 7 8 ] {} forall", 12),
    ("/f 1 def f", 5),
    ("/f {1} def f", 7),
    ("/f {} def f", 6),
    ("3 {exit 1} repeat", 6),
    ("{{exit} exec} loop", 7),
)


class Steps(Case):
    def test_just_enough_and_one_too_few(self):
        for text, steps in STEPS_WANTED:
            with self.subTest(text=text):
                self.assertEqual(ask(run(text, steps=steps)), [[0, 0]])
                self.assertEqual(ask(run(text, steps=steps + 1)), [[0, 0]])
                self.assertEqual(ask(run(text, steps=steps - 1)), [[1, 0]])

    def test_none(self):
        self.assertEqual(ask(run("1 =", steps=0), DEPTH), [[1, 0], [0]])
        self.assertEqual(ask(run("", steps=0)), [[1, 0]])
        self.assertEqual(ask(run("}", steps=0)), [[-1, 0]])

    def test_what_was_done_by_then(self):
        for steps, depth in ((1, 1), (2, 2), (3, 3), (4, 2), (5, 1)):
            with self.subTest(steps=steps):
                self.assertEqual(ask(run("1 2 3 add add", steps=steps), DEPTH), [[1, 0], [depth]])

    def test_each_turn_of_for(self):
        depths = [ask(run("5 5 10 {pop} for", steps=steps), DEPTH)[1][0] for steps in range(5, 13)]
        self.assertEqual(depths, [0, 1, 0, 0, 1, 0, 0, 0])

    def test_each_turn_of_forall(self):
        depths = [ask(run("[ 7 8 ] {pop} forall", steps=steps), DEPTH)[1][0] for steps in range(6, 15)]
        self.assertEqual(depths, [0, 1, 0, 0, 1, 0, 0, 0, 0])

    def test_wrong_things_ahead_are_not_seen(self):
        self.assertEqual(ask(run("1 nothing", steps=1)), [[1, 0]])
        self.assertEqual(ask(run("1 nothing", steps=2)), [[-6, 0]])
        self.assertEqual(ask(run("1 exit", steps=1), run("1 exit", steps=2)), [[1, 0], [-8, 0]])

    def test_nothing_of_the_pile_is_left(self):
        self.assertEqual(ask(run("{1} loop", steps=8), run("2 ="), DEPTH), [[1, 0], [0, 2, 50, 10], [2]])
        self.assertEqual(ask(run("1 2 3", steps=1), run("", steps=1), DEPTH), [[1, 0], [0, 0], [1]])
        self.assertEqual(ask(run("{nothing} loop"), run("", steps=1)), [[-6, 0], [0, 0]])

    def test_loop_without_an_end(self):
        self.assertEqual(ask(run("{} loop", steps=100001), run("{1 pop} loop", steps=100000)), [[1, 0], [1, 0]])

    def test_the_frame_of_a_procedure_at_its_end_is_still_there(self):
        # No frame goes before its own step, so a procedure that ends by itself reaches the bound too.
        self.assertEqual(outcome("/f {f} def f"), (-7, ""))
