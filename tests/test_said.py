from tests.helper import PLENTY, Case, ask, run, said


class Said(Case):
    def test_every_kind(self):
        for text, line in (
            ("5 =", "5"), ("-5 =", "-5"), ("0 =", "0"), ("-2147483648 =", "-2147483648"),
            ("2147483647 =", "2147483647"), ("true =", "true"), ("false =", "false"), ("/abc =", "abc"),
            ("/~!\"#$&'()*+,-.:;<=>?@\\^_`| =", "~!\"#$&'()*+,-.:;<=>?@\\^_`|"), ("mark =", "--mark--"),
            ("[ =", "--mark--"), ("1 array =", "--array--"), ("[ 1 ] =", "--array--"), ("table =", "--table--"),
            ("keep =", "--state--"), ("{1} =", "--procedure--"),
        ):
            with self.subTest(text=text):
                self.assertEqual(said(text), line + "\n")

    def test_it_takes_the_thing(self):
        self.check(("1 2 =", 0, "1"), ("=", -3, ""))

    def test_in_order(self):
        self.assertEqual(said("1 = 2 = /a ="), "1\n2\na\n")

    def test_each_run_says_its_own(self):
        self.assertEqual(ask(run("1 = 2"), run("="), run("")), [[0, 2, 49, 10], [0, 2, 50, 10], [0, 0]])

    def test_most(self):
        whole = list(b"123\nab\n")
        for most in (0, 1, 3, 4, 5, 6, 7, 8, 3000):
            with self.subTest(most=most):
                self.assertEqual(ask(run("123 = /ab =", most=most)), [[0, 7] + whole[:most]])

    def test_most_where_it_goes_wrong_afterwards(self):
        for text, answer in (("12 = pop", -3), ("12 = true neg", -4), ("12 = 1 0 idiv", -5), ("12 = nothing", -6),
                             ("12 = 2049 array", -7), ("12 = exit", -8), ("12 = keep dup back", -9)):
            for most in (0, 2, 3, 4):
                with self.subTest(text=text, most=most):
                    self.assertEqual(ask(run(text, most=most)), [[answer, 3] + [49, 50, 10][:most]])

    def test_most_where_steps_run_out(self):
        self.assertEqual(ask(run("1 = 2 =", steps=3)), [[1, 2, 49, 10]])

    def test_more_than_3000(self):
        row = ask(run("2000 {7 =} repeat", steps=PLENTY, most=3000))[0]
        self.assertEqual(row, [0, 4000] + [55, 10] * 1500)
        row = ask(run("1000 {/abc =} repeat", most=2999))[0]
        self.assertEqual(row, [0, 4000] + (list(b"abc\n") * 1000)[:2999])

    def test_refused_texts_say_nothing(self):
        self.assertEqual(ask(run("1 ="), run("2 = }")), [[0, 2, 49, 10], [-1, 0]])
