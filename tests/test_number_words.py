from tests.helper import Case

LEAST = "-2147483648"
MOST = "2147483647"
TWO_NUMBERS = ("add", "sub", "mul", "idiv", "mod", "lt", "le", "gt", "ge")


class Reckoning(Case):
    def test_add_sub_mul(self):
        self.check(
            ("7 1 2 add", 0, "7 3"),
            (f"{MOST} 1 add", 0, LEAST),
            (f"{LEAST} -1 add", 0, MOST),
            (f"{LEAST} {LEAST} add", 0, "0"),
            ("1 2 sub", 0, "-1"),
            (f"{LEAST} 1 sub", 0, MOST),
            (f"0 {LEAST} sub", 0, LEAST),
            ("-3 4 mul", 0, "-12"),
            ("65536 65536 mul", 0, "0"),
            ("65536 32768 mul", 0, LEAST),
            (f"{MOST} {MOST} mul", 0, "1"),
            (f"{LEAST} -1 mul", 0, LEAST),
            (f"{LEAST} {MOST} mul", 0, LEAST),
        )

    def test_idiv_goes_towards_0(self):
        self.check(
            ("7 2 idiv", 0, "3"),
            ("-7 2 idiv", 0, "-3"),
            ("7 -2 idiv", 0, "-3"),
            ("-7 -2 idiv", 0, "3"),
            ("0 -2 idiv", 0, "0"),
            ("1 2 idiv", 0, "0"),
            ("-1 2 idiv", 0, "0"),
            ("-1 1 idiv", 0, "-1"),
            ("1 -1 idiv", 0, "-1"),
            ("-1 -1 idiv", 0, "1"),
            ("9 -5 -1 idiv", 0, "9 5"),
            (f"{LEAST} -1 idiv", 0, LEAST),
            (f"{LEAST} 1 idiv", 0, LEAST),
            (f"{MOST} {LEAST} idiv", 0, "0"),
        )

    def test_mod_has_the_sign_of_a(self):
        self.check(
            ("7 3 mod", 0, "1"),
            ("-7 3 mod", 0, "-1"),
            ("7 -3 mod", 0, "1"),
            ("-7 -3 mod", 0, "-1"),
            ("-6 3 mod", 0, "0"),
            ("-1 3 mod", 0, "-1"),
            ("9 1 -3 mod", 0, "9 1"),
            (f"{LEAST} -1 mod", 0, "0"),
            (f"{LEAST} {MOST} mod", 0, "-1"),
            (f"{MOST} {LEAST} mod", 0, MOST),
        )

    def test_by_0(self):
        self.check(
            ("7 0 idiv", -5, "7 0"),
            ("7 0 mod", -5, "7 0"),
            ("0 0 idiv", -5, "0 0"),
            ("0 0 mod", -5, "0 0"),
            ("/a 0 idiv", -4, "a 0"),
            ("true 0 mod", -4, "true 0"),
            ("0 idiv", -3, "0"),
            ("0 mod", -3, "0"),
        )

    def test_neg(self):
        self.check(
            ("9 5 neg", 0, "9 -5"),
            ("-5 neg", 0, "5"),
            ("0 neg", 0, "0"),
            (f"{LEAST} neg", 0, LEAST),
            ("neg", -3, ""),
            ("true neg", -4, "true"),
            ("/a neg", -4, "a"),
        )

    def test_comparing(self):
        for word, below, same, above in (
            ("lt", "true", "false", "false"),
            ("le", "true", "true", "false"),
            ("gt", "false", "false", "true"),
            ("ge", "false", "true", "true"),
        ):
            self.check(
                (f"1 2 {word}", 0, below),
                (f"2 2 {word}", 0, same),
                (f"2 1 {word}", 0, above),
                (f"{LEAST} {MOST} {word}", 0, below),
                (f"9 -3 -2 {word}", 0, f"9 {below}"),
            )

    def test_two_numbers_are_wanted(self):
        for word in TWO_NUMBERS:
            self.check(
                (word, -3, ""),
                (f"1 {word}", -3, "1"),
                (f"/a {word}", -3, "a"),
                (f"1 true {word}", -4, "1 true"),
                (f"true 1 {word}", -4, "true 1"),
                (f"/a /b {word}", -4, "a b"),
                (f"[ 1 {word}", -4, "--mark-- 1"),
                (f"1 {{}} {word}", -4, "1 --procedure--"),
            )


class Sameness(Case):
    def test_eq_of_one_kind(self):
        self.check(
            ("9 1 1 eq", 0, "9 true"),
            ("1 2 eq", 0, "false"),
            ("true true eq", 0, "true"),
            ("true false eq", 0, "false"),
            ("false false eq", 0, "true"),
            ("/a /a eq", 0, "true"),
            ("/a /b eq", 0, "false"),
            ("/a /A eq", 0, "false"),
            ("[ [ eq", 0, "true"),
            ("1 array dup eq", 0, "true"),
            ("1 array 1 array eq", 0, "false"),
            ("[ ] [ ] eq", 0, "false"),
            ("table dup eq", 0, "true"),
            ("table table eq", 0, "false"),
        )

    def test_eq_of_two_kinds(self):
        things = {
            "number": "1", "truth": "true", "name": "/1", "mark": "mark", "array": "1 array",
            "table": "table", "state": "keep", "procedure": "{1}",
        }
        for one in things:
            for other in things:
                if one != other:
                    with self.subTest(one=one, other=other):
                        self.check((f"{things[one]} {things[other]} eq", 0, "false"))

    def test_a_truth_is_no_number(self):
        self.check(("1 true eq", 0, "false"), ("false 0 eq", 0, "false"), ("0 array 0 eq", 0, "false"))

    def test_an_array_and_a_table_of_one_number_differ(self):
        self.check(("0 array 0 array table eq", 0, "--array-- false"),)

    def test_eq_that_goes_wrong(self):
        self.check(
            ("eq", -3, ""),
            ("1 eq", -3, "1"),
            ("{} {} eq", -4, "--procedure-- --procedure--"),
            ("{} dup eq", -4, "--procedure-- --procedure--"),
            ("keep keep eq", -4, "--state-- --state--"),
            ("keep dup eq", -4, "--state-- --state--"),
            ("{} eq", -3, "--procedure--"),
        )


class Bits(Case):
    def test_truths(self):
        for word, answers in (("and", "false false false true"), ("or", "false true true true"),
                              ("xor", "false true true false")):
            found = answers.split()
            self.check(
                (f"false false {word}", 0, found[0]),
                (f"false true {word}", 0, found[1]),
                (f"true false {word}", 0, found[2]),
                (f"9 true true {word}", 0, f"9 {found[3]}"),
            )
        self.check(("true not", 0, "false"), ("false not", 0, "true"))

    def test_numbers(self):
        self.check(
            ("12 10 and", 0, "8"),
            ("12 10 or", 0, "14"),
            ("12 10 xor", 0, "6"),
            ("-1 255 and", 0, "255"),
            (f"{LEAST} {MOST} or", 0, "-1"),
            (f"{LEAST} {MOST} xor", 0, "-1"),
            (f"{LEAST} {MOST} and", 0, "0"),
            ("-1 1 xor", 0, "-2"),
            ("0 not", 0, "-1"),
            ("9 5 not", 0, "9 -6"),
            (f"{LEAST} not", 0, MOST),
            (f"{MOST} not", 0, LEAST),
            ("1 not 1 and", 0, "0"),
        )

    def test_that_go_wrong(self):
        for word in ("and", "or", "xor"):
            self.check(
                (word, -3, ""),
                (f"true {word}", -3, "true"),
                (f"/a {word}", -3, "a"),
                (f"true 1 {word}", -4, "true 1"),
                (f"1 true {word}", -4, "1 true"),
                (f"/a /a {word}", -4, "a a"),
                (f"1 /a {word}", -4, "1 a"),
                (f"/a 1 {word}", -4, "a 1"),
                (f"[ [ {word}", -4, "--mark-- --mark--"),
            )
        self.check(("not", -3, ""), ("/a not", -4, "a"), ("{} not", -4, "--procedure--"))

    def test_true_and_false(self):
        self.check(("true false", 0, "true false"),)
