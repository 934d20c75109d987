from tests.helper import CLEAR, DEPTH, Case, ask, last_answer, outcome, run

LONG = "a" * 31
TOO_LONG = "a" * 32


class Blanks(Case):
    def test_each_blank_parts_tokens(self):
        self.check(("1 2\t3\n4\r5", 0, "1 2 3 4 5"), ("", 0, ""), (" \t\n\r", 0, ""), ("  1  ", 0, "1"))

    def test_bytes_that_are_no_text(self):
        wrong = [byte for byte in range(256) if not 33 <= byte <= 126 and byte not in (9, 10, 13, 32)]
        self.assertEqual(len(wrong), 256 - 94 - 4)
        for byte in wrong:
            with self.subTest(byte=byte):
                self.assertEqual(ask(run([byte])), [[-1, 0]])
                self.assertEqual(ask(run([49, byte])), [[-1, 0]])
                self.assertEqual(ask(run([47, 97, byte])), [[-1, 0]])

    def test_every_plain_byte_may_be_in_a_name(self):
        for byte in range(33, 127):
            if byte not in b"{}[]/%":
                with self.subTest(byte=byte):
                    text = [47, byte] + list(b" = 1")
                    self.assertEqual(ask(run(text), DEPTH), [[0, 2, byte, 10], [1]])


class Comments(Case):
    def test_up_to_a_line_feed_or_the_end(self):
        self.check(
            ("1 % 2\n3", 0, "1 3"),
            ("1 % 2", 0, "1"),
            ("%", 0, ""),
            ("1 %\n%\n2", 0, "1 2"),
            ("1 % 2 % 3\n4", 0, "1 4"),
            ("1 % 2\r3", 0, "1"),
        )

    def test_a_comment_ends_a_run(self):
        self.check(("12%3\n4", 0, "12 4"), ("/a%b\n/c", 0, "a c"))

    def test_anything_may_stand_in_it(self):
        self.check(("% { } / \n1", 0, "1"), ("%" + TOO_LONG + " 99999999999\n1", 0, "1"))
        every = [byte for byte in range(256) if byte != 10]
        self.assertEqual(ask(run([37] + every + [10, 49]), DEPTH), [[0, 0], [1]])


class Runs(Case):
    def test_tokens_need_no_blanks_where_they_differ(self):
        self.check(
            ("/a/b", 0, "a b"),
            ("1/b", 0, "1 b"),
            ("1{2}exec", 0, "1 2"),
            ("[1[2]]", 0, "--array--"),
            ("{}{}", 0, "--procedure-- --procedure--"),
            ("{/a}exec/b", 0, "a b"),
        )

    def test_brackets_are_words_of_their_own(self):
        self.check(("[[", 0, "--mark-- --mark--"), ("[]", 0, "--array--"), ("1[2]length", 0, "1 1"))

    def test_names(self):
        self.check(
            ("/" + LONG, 0, LONG),
            ("/1", 0, "1"),
            ("/1 1 eq", 0, "false"),
            ("/-5", 0, "-5"),
            ("/" + "1" * 31, 0, "1" * 31),
        )
        for text in ("/" + TOO_LONG, "/" + "1" * 32, "/", "/ a", "//a", "/{}", "/[", "/]", "/%", "/\n", "1 /"):
            with self.subTest(text=text):
                self.assertEqual(ask(run(text), DEPTH), [[-1, 0], [0]])

    def test_words(self):
        self.check(
            (f"/{LONG} 7 def {LONG}", 0, "7"),
            (LONG, -6, ""),
            (TOO_LONG, -1, ""),
            ("a" * 4096, -1, ""),
            ("/- 7 def -", 0, "7"),
            ("-", -6, ""),
            ("+5", -6, ""),
            ("--5", -6, ""),
            ("5-", -6, ""),
            ("5a", -6, ""),
            ("-5a", -6, ""),
            ("1.5", -6, ""),
            ("/5a 1 def 5a", 0, "1"),
            ("1" * 31 + "a", -1, ""),
            ("1" * 30 + "a", -6, ""),
            ("-" * 31, -6, ""),
            ("-" * 32, -1, ""),
        )

    def test_numbers(self):
        self.check(
            ("0 -0 007 -007", 0, "0 0 7 -7"),
            ("2147483647 -2147483648", 0, "2147483647 -2147483648"),
            ("2147483648", -1, ""),
            ("-2147483649", -1, ""),
            ("4294967296", -1, ""),
            ("99999999999", -1, ""),
            ("-99999999999", -1, ""),
            ("0" * 40 + "5", 0, "5"),
            ("-" + "0" * 40 + "2147483648", 0, "-2147483648"),
            ("0" * 40 + "2147483648", -1, ""),
            ("0" * 4096, 0, "0"),
            ("9" * 4096, -1, ""),
        )

    def test_a_number_is_no_word(self):
        self.check(("/5 6 def 5", 0, "5"),)


class Procedures(Case):
    def test_sixteen_within_one_another(self):
        self.check(
            ("{" * 16 + "}" * 16, 0, "--procedure--"),
            ("{" * 16 + "7" + "}" * 16 + " exec" * 16, 0, "7"),
            ("{" * 17 + "}" * 17, -1, ""),
            ("1 {" + "{" * 16 + "}" * 16 + "}", -1, ""),
            ("{" * 15 + "{}{}{{" + "}" * 17, -1, ""),
            ("{}" * 17, 0, " ".join(["--procedure--"] * 17)),
            ("{" * 4096, -1, ""),
        )

    def test_braces_too_many_and_too_few(self):
        for text in ("{", "}", "}{", "{}}", "{{}", "1 2 }", "{ 1 2", "{ % }", "{}}{"):
            with self.subTest(text=text):
                self.assertEqual(ask(run(text), DEPTH), [[-1, 0], [0]])

    def test_the_things_within_keep_their_order(self):
        self.check(("{1 /a {2} 3} exec", 0, "1 a --procedure-- 3"), ("{1 2 sub} exec", 0, "-1"))


class NoText(Case):
    def test_nothing_is_done(self):
        self.assertEqual(outcome("1", "2 = 3 }"), (-1, "1"))
        self.assertEqual(ask(run("1 ="), run("2 = }"), run("=")), [[0, 2, 49, 10], [-1, 0], [-3, 0]])


class TokensOfAllTexts(Case):
    def test_4096_and_one_more(self):
        whole = run("{}" * 2048, steps=0)
        self.assertEqual(ask(whole, run("1 ="), run("%"), DEPTH), [[1, 0], [-7, 0], [0, 0], [0]])

    def test_a_text_that_just_fits(self):
        rows = ask(run("{}" * 2044, steps=0), run("{ } [ ] /a 1 2 x", steps=0), run("1", steps=0))
        self.assertEqual(rows, [[1, 0], [1, 0], [-7, 0]])

    def test_a_text_with_one_token_too_many(self):
        rows = ask(run("{}" * 2044, steps=0), run("{ } [ ] /a 1 2 x 3", steps=0), run("1 2 3 4 5 6 7 8"), DEPTH)
        self.assertEqual(rows, [[1, 0], [-7, 0], [0, 0], [8]])

    def test_texts_that_were_refused_do_not_count(self):
        rows = ask(run("{}" * 2047, steps=0), run("1 2 }"), run("1 2 3"), run("1 2"), run("1"), DEPTH)
        self.assertEqual(rows, [[1, 0], [-1, 0], [-7, 0], [0, 0], [-7, 0], [2]])

    def test_a_text_that_went_wrong_counts_whole(self):
        rows = ask(run("{}" * 2047, steps=0), run("pop 1"), run("1"))
        self.assertEqual(rows, [[1, 0], [-3, 0], [-7, 0]])

    def test_no_text_is_told_first(self):
        self.assertEqual(ask(run("{}" * 2048, steps=0), run("1 }"))[-1], [-1, 0])

    def test_a_turn_again_is_no_token_again(self):
        self.assertEqual(last_answer("5000 {1 pop} repeat", "1"), 0)

    def test_pl_clear_begins_anew(self):
        whole = run("{}" * 2048, steps=0)
        self.assertEqual(ask(whole, CLEAR, whole, run("1")), [[1, 0], [0], [1, 0], [-7, 0]])
