from tests.helper import Case, outcome


class Procedures(Case):
    def test_exec(self):
        self.check(
            ("1 {2 3} exec", 0, "1 2 3"),
            ("{{7} exec} exec", 0, "7"),
            ("{} exec", 0, ""),
            ("exec", -3, ""),
            ("1 exec", -4, "1"),
            ("/pop exec", -4, "pop"),
            ("0 array exec", -4, "--array--"),
        )

    def test_if(self):
        self.check(
            ("9 true {1} if", 0, "9 1"),
            ("9 false {1} if", 0, "9"),
            ("if", -3, ""),
            ("{} if", -3, "--procedure--"),
            ("1 {} if", -4, "1 --procedure--"),
            ("true 1 if", -4, "true 1"),
            ("false 1 if", -4, "false 1"),
            ("{} true if", -4, "--procedure-- true"),
        )

    def test_ifelse(self):
        self.check(
            ("9 true {1} {2} ifelse", 0, "9 1"),
            ("9 false {1} {2} ifelse", 0, "9 2"),
            ("ifelse", -3, ""),
            ("{} {} ifelse", -3, "--procedure-- --procedure--"),
            ("0 {} {} ifelse", -4, "0 --procedure-- --procedure--"),
            ("true 1 {} ifelse", -4, "true 1 --procedure--"),
            ("true {} 1 ifelse", -4, "true --procedure-- 1"),
            ("false 1 {} ifelse", -4, "false 1 --procedure--"),
        )


class Loops(Case):
    def test_repeat(self):
        self.check(
            ("3 {7} repeat", 0, "7 7 7"),
            ("0 {7} repeat", 0, ""),
            ("1 2 {3 {2 mul} repeat} repeat", 0, "64"),
            ("repeat", -3, ""),
            ("{} repeat", -3, "--procedure--"),
            ("3 4 repeat", -4, "3 4"),
            ("true {} repeat", -4, "true --procedure--"),
            ("-1 4 repeat", -4, "-1 4"),
            ("-1 {} repeat", -5, "-1 --procedure--"),
        )

    def test_loop(self):
        self.check(
            ("0 {1 add dup 5 eq {exit} if} loop", 0, "5"),
            ("loop", -3, ""),
            ("1 loop", -4, "1"),
        )

    def test_for(self):
        self.check(
            ("1 1 4 {} for", 0, "1 2 3 4"),
            ("1 2 4 {} for", 0, "1 3"),
            ("4 -1 1 {} for", 0, "4 3 2 1"),
            ("4 -2 1 {} for", 0, "4 2"),
            ("1 1 1 {} for", 0, "1"),
            ("1 -1 1 {} for", 0, "1"),
            ("2 1 1 {} for", 0, ""),
            ("1 -1 2 {} for", 0, ""),
            ("0 1 1 3 {add} for", 0, "6"),
        )

    def test_for_past_the_32_bits(self):
        self.check(
            ("2147483646 1 2147483647 {} for", 0, "2147483646 2147483647"),
            ("-2147483647 -1 -2147483648 {} for", 0, "-2147483647 -2147483648"),
            ("0 2147483647 2147483647 {} for", 0, "0 2147483647"),
            ("0 -2147483648 -2147483648 {} for", 0, "0 -2147483648"),
            ("-2147483648 2147483647 2147483647 {} for", 0, "-2147483648 -1 2147483646"),
        )

    def test_for_that_goes_wrong(self):
        self.check(
            ("for", -3, ""),
            ("1 1 {} for", -3, "1 1 --procedure--"),
            ("1 1 1 1 for", -4, "1 1 1 1"),
            ("/a 1 1 {} for", -4, "a 1 1 --procedure--"),
            ("1 /a 1 {} for", -4, "1 a 1 --procedure--"),
            ("1 1 /a {} for", -4, "1 1 a --procedure--"),
            ("1 0 /a {} for", -4, "1 0 a --procedure--"),
            ("1 0 1 {} for", -5, "1 0 1 --procedure--"),
            ("2 0 1 {} for", -5, "2 0 1 --procedure--"),
        )

    def test_forall(self):
        self.check(
            ("[ 1 /a {2} ] {} forall", 0, "1 a --procedure--"),
            ("0 [ 1 2 3 ] {add} forall", 0, "6"),
            ("[ ] {1} forall", 0, ""),
            ("forall", -3, ""),
            ("{} forall", -3, "--procedure--"),
            ("1 {} forall", -4, "1 --procedure--"),
            ("{} {} forall", -4, "--procedure-- --procedure--"),
            ("table {} forall", -4, "--table-- --procedure--"),
            ("0 array 1 forall", -4, "--array-- 1"),
        )

    def test_forall_sees_what_is_put_meanwhile(self):
        self.check(("/a [ 1 2 3 ] def a {a 2 9 put a 0 8 put} forall a 0 get", 0, "1 2 9 8"),)

    def test_forall_of_an_array_within_itself(self):
        self.check(("/a 1 array def a 0 a put a {0 get} forall a eq", 0, "true"))


class Exit(Case):
    def test_out_of_each_loop(self):
        self.check(
            ("3 {1 exit 2} repeat 5", 0, "1 5"),
            ("{1 exit 2} loop 5", 0, "1 5"),
            ("1 1 3 {exit 2} for 5", 0, "1 5"),
            ("[ 7 8 ] {exit 2} forall 5", 0, "7 5"),
        )

    def test_out_of_the_innermost_alone(self):
        self.check(("2 {{exit} loop 1} repeat 5", 0, "1 1 5"), ("2 {0 1 9 {exit} for} repeat", 0, "0 0"))

    def test_through_procedures(self):
        self.check(
            ("{{true {exit 1} if 2} exec 3} loop 4", 0, "4"),
            ("/out {exit 1} def {out 2} loop 3", 0, "3"),
        )

    def test_without_a_loop(self):
        self.check(
            ("1 exit 2", -8, "1"),
            ("{exit} exec", -8, ""),
            ("1 {} repeat exit", -8, ""),
            ("{exit} loop exit", -8, ""),
        )

    def test_the_loop_of_an_earlier_run_is_no_more(self):
        self.assertEqual(outcome("{pop} loop", "exit"), (-8, ""))


class Words(Case):
    def test_a_thing_that_is_found_is_put_on_the_stack(self):
        self.check(
            ("/x 5 def x", 0, "5"),
            ("/x /y def x", 0, "y"),
            ("/x mark def x", 0, "--mark--"),
            ("/x true def x", 0, "true"),
            ("/x 1 array def x x eq", 0, "true"),
            ("/x table def x", 0, "--table--"),
        )

    def test_a_procedure_that_is_found_is_done(self):
        self.check(("/x {1 2} def x 3", 0, "1 2 3"), ("/x {y} def /y {4} def x", 0, "4"))

    def test_the_table_opened_last_comes_first(self):
        self.check(
            ("/x 1 def table begin x /x 2 def x table begin x /x 3 def x end x end x", 0, "1 2 2 3 2 1"),
        )

    def test_tables_come_before_the_words(self):
        self.check(
            ("/add {sub} def 5 3 add", 0, "2"),
            ("/pop 7 def pop", 0, "7"),
            ("/true false def true", 0, "false"),
            ("table begin /dup 1 def dup end dup", 0, "1 1"),
        )

    def test_what_a_procedure_means_is_found_when_it_is_done(self):
        self.check(("/f {x} def /x 1 def f /x 2 def f", 0, "1 2"),)

    def test_no_such_word(self):
        self.check(
            ("1 nothing 2", -6, "1"),
            ("Add", -6, ""),
            ("{nothing} pop", 0, ""),
            ("table begin /x 1 def end x", -6, ""),
            ("x /x 1 def", -6, ""),
        )

    def test_what_was_done_before_stays_done(self):
        self.check(("/x 5 def x x add 1 array dup 0 x put nothing", -6, "10 --array--"))
        self.assertEqual(outcome("/x 5 def table begin pop", "x end"), (0, "5"))
        self.assertEqual(outcome("2 {1 2} repeat 0 idiv", "count"), (0, "1 2 1 2 0 5"))
