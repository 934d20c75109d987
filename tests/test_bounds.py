from tests.helper import CLEAR, DEPTH, Case, ask, depth_after, outcome, run


def at_frames(how_many, body):
    """A text whose body is done while so many frames, 127 or 128, are on the pile.

    The text's frame is one, that of f and that of the branch make two more for each time.
    """
    start = "f" if how_many == 127 else "{f} exec"
    return f"/k 62 def /f {{k 0 eq {{{body}}} {{/k k 1 sub def f}} ifelse}} def {start}"


class StackBound(Case):
    def test_256_and_one_more(self):
        self.assertEqual(depth_after("256 {1} repeat"), (0, 256))
        self.assertEqual(depth_after("257 {1} repeat"), (-7, 256))

    def test_all_that_puts_one_more(self):
        fill = "/x 5 def /p {} def /a [ 1 ] def 255 {1} repeat mark"
        for text in ("1", "/a", "{}", "dup", "count", "mark", "[", "counttomark", "true", "false", "table", "keep", "x"):
            with self.subTest(text=text):
                self.assertEqual(depth_after(fill, text), (-7, 256))
                self.assertEqual(depth_after(fill, "pop pop mark " + text), (0, 256))

    def test_what_was_refused_was_not_made(self):
        fill = "256 {1} repeat"
        self.assertEqual(outcome(fill + " keep", "clear 4 {keep pop} repeat"), (0, ""))
        self.assertEqual(outcome(fill + " table", "clear 31 {table pop} repeat"), (0, ""))

    def test_words_that_leave_as_many(self):
        fill = "/p {} def 253 {1} repeat true 1 1"
        for text, depth in (("p", 256), ("exch", 256), ("neg", 256), ("add", 255), ("index", 256), ("pop", 255),
                            ("pop pop not", 254), ("array", 256), ("clear", 0)):
            with self.subTest(text=text):
                self.assertEqual(depth_after(fill, text), (0, depth))

    def test_copy(self):
        self.assertEqual(depth_after("128 {1} repeat 128 copy"), (0, 256))
        self.assertEqual(depth_after("129 {1} repeat 128 copy"), (-7, 130))
        self.assertEqual(depth_after("255 {1} repeat 1 copy"), (0, 256))
        self.assertEqual(depth_after("255 {1} repeat 0 copy"), (0, 255))
        self.assertEqual(depth_after("255 {1} repeat 2 copy"), (-7, 256))

    def test_loops(self):
        self.assertEqual(depth_after("/a [ 1 ] def 252 {1} repeat 1 1 4 {} for"), (0, 256))
        self.assertEqual(depth_after("/a [ 1 ] def 252 {1} repeat 1 1 5 {} for"), (-7, 256))
        self.assertEqual(depth_after("/a 4 array def 252 {1} repeat a {} forall"), (0, 256))
        self.assertEqual(depth_after("/a 5 array def 252 {1} repeat a {} forall"), (-7, 256))

    def test_something_else_wrong_comes_first(self):
        fill = "256 {1} repeat"
        for text, answer in (("nothing", -6), ("counttomark", -3), ("exit", -8), ("end", -3), ("exec", -4)):
            with self.subTest(text=text):
                self.assertEqual(depth_after(fill, text), (answer, 256))
        self.assertEqual(depth_after("255 {1} repeat 256 copy"), (-3, 256))


class FrameBound(Case):
    def test_128_and_one_more(self):
        self.assertEqual(outcome("/n 0 def /f {/n n 1 add def f} def f", "n"), (0, "127"))
        self.check(
            ("/f {1 sub dup 0 gt {f} if} def 64 f", 0, "0"),
            ("/f {1 sub dup 0 gt {f} if} def 65 f", -7, "1 true --procedure--"),
        )

    def test_all_that_puts_a_frame(self):
        for body, left in (
            ("{} exec", "--procedure--"),
            ("true {} if", "true --procedure--"),
            ("true {} {} ifelse", "true --procedure-- --procedure--"),
            ("false {} {} ifelse", "false --procedure-- --procedure--"),
            ("0 {} repeat", "0 --procedure--"),
            ("{} loop", "--procedure--"),
            ("2 1 1 {} for", "2 1 1 --procedure--"),
            ("[ ] {} forall", "--array-- --procedure--"),
            ("f", ""),
        ):
            with self.subTest(body=body):
                self.assertEqual(outcome(at_frames(128, body)), (-7, left))

    def test_the_same_where_one_more_has_room(self):
        for body in ("{} exec", "true {} if", "true {} {} ifelse", "false {} {} ifelse", "0 {} repeat",
                     "2 1 1 {} for", "[ ] {} forall", "/p {} def p"):
            with self.subTest(body=body):
                self.assertEqual(outcome(at_frames(127, body)), (0, ""))

    def test_the_frame_of_a_turn(self):
        for body in ("1 {} repeat", "{exit} loop", "1 1 1 {pop} for", "[ 5 ] {pop} forall"):
            with self.subTest(body=body):
                self.assertEqual(outcome(at_frames(127, body)), (-7, ""))

    def test_what_puts_none(self):
        for body, left in (("false {} if", ""), ("1 2 add", "3"), ("/x 5 def x", "5")):
            with self.subTest(body=body):
                self.assertEqual(outcome(at_frames(128, body)), (0, left))

    def test_something_else_wrong_comes_first(self):
        for body, answer, left in (
            ("1 exec", -4, "1"), ("exec", -3, ""), ("-1 {} repeat", -5, "-1 --procedure--"), ("nothing", -6, ""),
            ("1 0 1 {} for", -5, "1 0 1 --procedure--"), ("true 1 if", -4, "true 1"),
            ("1 {} forall", -4, "1 --procedure--"),
        ):
            with self.subTest(body=body):
                self.assertEqual(outcome(at_frames(128, body)), (answer, left))

    def test_the_next_run_has_them_all_again(self):
        self.assertEqual(outcome(at_frames(128, "{} exec"), "clear " + at_frames(127, "{} exec")), (0, ""))


class OpenTables(Case):
    def test_16_and_one_more(self):
        self.check(
            ("table 15 {dup begin} repeat", 0, "--table--"),
            ("table 16 {dup begin} repeat", -7, "--table-- --table--"),
            ("15 {table begin} repeat", 0, ""),
            ("16 {table begin} repeat", -7, "--table--"),
            ("15 {table begin} repeat 15 {end} repeat", 0, ""),
            ("15 {table begin} repeat 16 {end} repeat", -3, ""),
            ("15 {table begin} repeat end table begin", 0, ""),
            ("15 {table begin} repeat 1 begin", -4, "1"),
            ("15 {table begin} repeat begin", -3, ""),
        )


class Arrays(Case):
    def test_256_and_one_more(self):
        self.check(
            ("256 {0 array pop} repeat", 0, ""),
            ("257 {0 array pop} repeat", -7, "0"),
            ("256 {[ ] pop} repeat", 0, ""),
            ("257 {[ ] pop} repeat", -7, "--mark--"),
            ("255 {[ 1 ] pop} repeat 1 array length", 0, "1"),
            ("256 {0 array pop} repeat [ 1 2 ]", -7, "--mark-- 1 2"),
        )

    def test_something_else_wrong_comes_first(self):
        self.check(
            ("256 {0 array pop} repeat -1 array", -5, "-1"),
            ("256 {0 array pop} repeat /a array", -4, "a"),
            ("256 {0 array pop} repeat [ keep ]", -4, "--mark-- --state--"),
            ("256 {0 array pop} repeat ]", -3, ""),
        )


class Items(Case):
    def test_2048_and_one_more(self):
        self.check(
            ("2048 array length", 0, "2048"),
            ("2049 array", -7, "2049"),
            ("2147483647 array", -7, "2147483647"),
            ("2047 array pop [ 1 ] length", 0, "1"),
            ("2047 array pop [ 1 2 ]", -7, "--mark-- 1 2"),
            ("2047 array pop [ 1 ] pop 1 array", -7, "1"),
            ("2048 array pop 0 array length", 0, "0"),
            ("2048 array pop [ ] length", 0, "0"),
            ("8 {256 array pop} repeat", 0, ""),
            ("8 {256 array pop} repeat 1 array", -7, "1"),
            ("2048 array pop -1 array", -5, "-1"),
        )

    def test_what_was_refused_does_not_count(self):
        self.assertEqual(outcome("2000 array pop 49 array", "clear 48 array length"), (0, "48"))


class Tables(Case):
    def test_32_and_one_more(self):
        self.check(("31 {table pop} repeat", 0, ""), ("32 {table pop} repeat", -7, ""))
        self.assertEqual(depth_after("31 {table} repeat"), (0, 31))
        self.assertEqual(depth_after("32 {table} repeat"), (-7, 31))

    def test_pl_clear_makes_room(self):
        text = run("31 {table pop} repeat 256 {8 array pop} repeat")
        self.assertEqual(ask(text, CLEAR, text, DEPTH), [[0, 0], [0], [0, 0], [0]])


class Names(Case):
    def test_64_in_table_0(self):
        full = " ".join(f"/n{i} {i} def" for i in range(64))
        self.assertEqual(outcome(full), (0, ""))
        self.assertEqual(outcome(full, "/m 1 def"), (-7, "m 1"))
        self.assertEqual(outcome(full, "/n63 1 def n63"), (0, "1"))
        self.assertEqual(outcome(full, "table begin /m 1 def m end"), (0, "1"))
        self.assertEqual(outcome(full, "/m keep def"), (-4, "m --state--"))
        self.assertEqual(outcome(full, "1 1 def"), (-4, "1 1"))

    def test_64_in_another(self):
        full = "table " + " ".join(f"dup /n{i} {i} put" for i in range(64))
        self.assertEqual(outcome(full, "length"), (0, "64"))
        self.assertEqual(outcome(full, "/m 1 put"), (-7, "--table-- m 1"))
        self.assertEqual(outcome(full, "dup /n0 7 put dup length exch /n0 get"), (0, "64 7"))
        self.assertEqual(outcome(full, "begin /m 1 def"), (-7, "m 1"))
        self.assertEqual(outcome(full, "/m keep put"), (-4, "--table-- m --state--"))
        self.assertEqual(outcome(full, "/m 1 def m"), (0, "--table-- 1"))

    def test_table_0_may_have_them_all_with_others_open(self):
        full = " ".join(f"/n{i} {i} def" for i in range(64))
        self.assertEqual(outcome(full, "table begin n0 n63"), (0, "0 63"))


class States(Case):
    def test_4_and_one_more(self):
        self.check(
            ("keep keep keep keep", 0, "--state-- --state-- --state-- --state--"),
            ("4 {keep pop} repeat", 0, ""),
            ("5 {keep pop} repeat", -7, ""),
            ("keep keep keep keep keep", -7, "--state-- --state-- --state-- --state--"),
        )
