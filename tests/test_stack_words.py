from tests.helper import Case, depth_after


class Moving(Case):
    def test_pop(self):
        self.check(("1 2 pop", 0, "1"), ("[ pop", 0, ""), ("pop", -3, ""))

    def test_exch(self):
        self.check(("1 2 3 exch", 0, "1 3 2"), ("1 exch", -3, "1"), ("exch", -3, ""))

    def test_dup(self):
        self.check(("1 /a dup", 0, "1 a a"), ("dup", -3, ""))

    def test_dup_leads_to_the_same_array(self):
        self.check(("1 array dup dup 0 7 put 0 get", 0, "--array-- 7"))

    def test_copy(self):
        self.check(
            ("1 2 3 2 copy", 0, "1 2 3 2 3"),
            ("1 2 2 copy", 0, "1 2 1 2"),
            ("1 0 copy", 0, "1"),
            ("0 copy", 0, ""),
        )

    def test_copy_that_goes_wrong(self):
        self.check(
            ("copy", -3, ""),
            ("1 2 copy", -3, "1 2"),
            ("1 copy", -3, "1"),
            ("2147483647 copy", -3, "2147483647"),
            ("1 /a copy", -4, "1 a"),
            ("[ copy", -4, "--mark--"),
            ("1 -1 copy", -5, "1 -1"),
            ("-1 copy", -5, "-1"),
        )

    def test_index(self):
        self.check(
            ("7 8 9 0 index", 0, "7 8 9 9"),
            ("7 8 9 1 index", 0, "7 8 9 8"),
            ("7 8 9 2 index", 0, "7 8 9 7"),
        )

    def test_index_that_goes_wrong(self):
        self.check(
            ("index", -3, ""),
            ("0 index", -3, "0"),
            ("7 8 9 3 index", -3, "7 8 9 3"),
            ("7 2147483647 index", -3, "7 2147483647"),
            ("7 true index", -4, "7 true"),
            ("true index", -4, "true"),
            ("7 -1 index", -5, "7 -1"),
            ("-1 index", -5, "-1"),
            ("-2147483648 index", -5, "-2147483648"),
        )

    def test_roll(self):
        self.check(
            ("0 1 2 3 3 1 roll", 0, "0 3 1 2"),
            ("0 1 2 3 3 2 roll", 0, "0 2 3 1"),
            ("0 1 2 3 3 -1 roll", 0, "0 2 3 1"),
            ("0 1 2 3 3 0 roll", 0, "0 1 2 3"),
            ("0 1 2 3 3 3 roll", 0, "0 1 2 3"),
            ("0 1 2 3 3 -4 roll", 0, "0 2 3 1"),
            ("0 1 2 3 3 7 roll", 0, "0 3 1 2"),
            ("0 1 2 3 4 1 roll", 0, "3 0 1 2"),
            ("1 2 1 5 roll", 0, "1 2"),
            ("1 2 0 5 roll", 0, "1 2"),
            ("0 5 roll", 0, ""),
            ("0 1 2 3 2147483647 roll", 0, "2 0 1"),
            ("0 1 2 3 -2147483648 roll", 0, "2 0 1"),
        )

    def test_roll_that_goes_wrong(self):
        self.check(
            ("roll", -3, ""),
            ("1 roll", -3, "1"),
            ("/a roll", -3, "a"),
            ("1 2 3 1 roll", -3, "1 2 3 1"),
            ("1 0 roll", -3, "1 0"),
            ("1 2 3 /a roll", -4, "1 2 3 a"),
            ("1 2 /a 1 roll", -4, "1 2 a 1"),
            ("1 9 /a roll", -4, "1 9 a"),
            ("1 -1 /a roll", -4, "1 -1 a"),
            ("1 -1 1 roll", -5, "1 -1 1"),
            ("-1 0 roll", -5, "-1 0"),
        )

    def test_clear_and_count(self):
        self.check(
            ("1 2 clear", 0, ""),
            ("clear", 0, ""),
            ("count", 0, "0"),
            ("[ 1 2 count", 0, "--mark-- 1 2 3"),
            ("1 2 clear count", 0, "0"),
        )


class Marks(Case):
    def test_mark(self):
        self.check(("mark [", 0, "--mark-- --mark--"), ("mark [ eq", 0, "true"))

    def test_cleartomark(self):
        self.check(
            ("1 mark 2 3 cleartomark", 0, "1"),
            ("1 [ 2 [ 3 cleartomark", 0, "1 --mark-- 2"),
            ("mark cleartomark", 0, ""),
            ("1 2 cleartomark", -3, "1 2"),
            ("cleartomark", -3, ""),
        )

    def test_counttomark(self):
        self.check(
            ("1 mark 2 3 counttomark", 0, "1 --mark-- 2 3 2"),
            ("[ 1 [ counttomark", 0, "--mark-- 1 --mark-- 0"),
            ("1 2 counttomark", -3, "1 2"),
            ("counttomark", -3, ""),
        )

    def test_close_bracket(self):
        self.check(
            ("1 [ 2 3 4 ] length", 0, "1 3"),
            ("mark 2 3 ] dup 0 get exch 1 get", 0, "2 3"),
            ("[ 1 [ 2 3 ] length", 0, "--mark-- 1 2"),
            ("[ ] length", 0, "0"),
            ("[ [ 5 ] ] 0 get 0 get", 0, "5"),
            ("[ /a true {1} table ] length", 0, "4"),
        )

    def test_close_bracket_that_goes_wrong(self):
        self.check(
            ("1 ]", -3, "1"),
            ("]", -3, ""),
            ("keep ]", -3, "--state--"),
            ("[ keep ]", -4, "--mark-- --state--"),
            ("[ 1 keep 2 ]", -4, "--mark-- 1 --state-- 2"),
            ("keep [ 1 ]", 0, "--state-- --array--"),
        )

    def test_each_bracket_makes_another_array(self):
        self.check(("2 {[ 1 ]} repeat eq", 0, "false"),)


class Depths(Case):
    def test_what_a_word_leaves(self):
        self.assertEqual(depth_after("1 2 3 3 copy count"), (0, 7))
