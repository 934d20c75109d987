from tests.helper import Case, outcome


class Tables(Case):
    def test_def(self):
        self.check(
            ("/x 1 def /x 2 def x", 0, "2"),
            ("def", -3, ""),
            ("/x def", -3, "x"),
            ("1 2 def", -4, "1 2"),
            ("{} 2 def", -4, "--procedure-- 2"),
            ("/x keep def", -4, "x --state--"),
        )

    def test_def_is_done_in_the_table_opened_last(self):
        self.check(
            ("table dup begin /x 1 def end /x known", 0, "true"),
            ("table dup begin table begin /x 1 def end end /x known", 0, "false"),
        )

    def test_load(self):
        self.check(
            ("/x {1} def /x load", 0, "--procedure--"),
            ("/x 5 def table begin /x load /x 6 def /x load end /x load", 0, "5 6 5"),
            ("load", -3, ""),
            ("1 load", -4, "1"),
            ("{} load", -4, "--procedure--"),
            ("/x load", -6, "x"),
            ("/add load", -6, "add"),
        )

    def test_table_begin_end(self):
        self.check(
            ("1 table", 0, "1 --table--"),
            ("table begin end", 0, ""),
            ("begin", -3, ""),
            ("1 begin", -4, "1"),
            ("0 array begin", -4, "--array--"),
            ("1 end", -3, "1"),
            ("end", -3, ""),
            ("table begin end end", -3, ""),
        )

    def test_a_table_may_be_opened_twice(self):
        self.check(("table dup begin begin /x 1 def end x end", 0, "1"),)

    def test_open_tables_stay_open_for_the_next_run(self):
        self.assertEqual(outcome("table dup begin", "/x 1 def end /x known"), (0, "true"))
        self.assertEqual(outcome("table begin pop pop", "end", "end"), (-3, ""))

    def test_known(self):
        self.check(
            ("table /x known", 0, "false"),
            ("table dup /x 1 put /x known", 0, "true"),
            ("/x 1 def table /x known", 0, "false"),
            ("known", -3, ""),
            ("/x known", -3, "x"),
            ("table 1 known", -4, "--table-- 1"),
            ("1 array /x known", -4, "--array-- x"),
            ("1 array 0 known", -4, "--array-- 0"),
        )

    def test_length_get_put(self):
        self.check(
            ("table length", 0, "0"),
            ("table dup /x 1 put dup /y 2 put dup /x 3 put dup length exch /x get", 0, "2 3"),
            ("table dup /t 1 index put /t get /t get length", 0, "1"),
        )

    def test_tables_are_shared(self):
        self.check(
            ("table dup dup /x 1 put /x get", 0, "--table-- 1"),
            ("/t table def t begin /x 4 def end t /x get", 0, "4"),
        )


class Arrays(Case):
    def test_array(self):
        self.check(
            ("3 array {} forall", 0, "0 0 0"),
            ("0 array length", 0, "0"),
            ("array", -3, ""),
            ("true array", -4, "true"),
            ("/a array", -4, "a"),
            ("-1 array", -5, "-1"),
            ("-2147483648 array", -5, "-2147483648"),
        )

    def test_items_are_not_one_another(self):
        self.check(
            ("/a 3 array def a 1 7 put a {} forall", 0, "0 7 0"),
            ("1 array 1 array dup 0 7 put 0 get exch 0 get", 0, "7 0"),
        )

    def test_length(self):
        self.check(
            ("[ 1 2 3 ] length", 0, "3"),
            ("length", -3, ""),
            ("1 length", -4, "1"),
            ("{1} length", -4, "--procedure--"),
            ("/abc length", -4, "abc"),
            ("keep length", -4, "--state--"),
        )

    def test_arrays_are_shared(self):
        self.check(
            ("/a 2 array def /b a def b 0 5 put a 0 get", 0, "5"),
            ("1 array [ 1 index ] 0 get 0 7 put 0 get", 0, "7"),
        )

    def test_an_array_may_hold_itself(self):
        self.check(("/a 1 array def a 0 a put a 0 get 0 get 0 get a eq", 0, "true"),)


class Getting(Case):
    def test_get(self):
        self.check(
            ("[ 7 8 9 ] 0 get", 0, "7"),
            ("[ 7 8 9 ] 2 get", 0, "9"),
            ("[ {1} ] 0 get", 0, "--procedure--"),
            ("table dup /p {1} put /p get", 0, "--procedure--"),
        )

    def test_get_that_goes_wrong(self):
        self.check(
            ("get", -3, ""),
            ("0 get", -3, "0"),
            ("[ 7 ] /x get", -4, "--array-- x"),
            ("table 0 get", -4, "--table-- 0"),
            ("{1} 0 get", -4, "--procedure-- 0"),
            ("1 0 get", -4, "1 0"),
            ("[ 7 ] true get", -4, "--array-- true"),
            ("[ 7 ] 1 get", -5, "--array-- 1"),
            ("[ 7 ] -1 get", -5, "--array-- -1"),
            ("[ ] 0 get", -5, "--array-- 0"),
            ("table /x get", -6, "--table-- x"),
            ("/x 1 def table /x get", -6, "--table-- x"),
        )


class Putting(Case):
    def test_put(self):
        self.check(
            ("2 array dup 1 /x put dup 0 get exch 1 get", 0, "0 x"),
            ("table dup /x 1 put dup /x 2 put /x get", 0, "2"),
            ("1 array dup 0 [ put 0 get", 0, "--mark--"),
        )

    def test_put_that_goes_wrong(self):
        self.check(
            ("put", -3, ""),
            ("0 1 put", -3, "0 1"),
            ("1 array /x 1 put", -4, "--array-- x 1"),
            ("table 0 1 put", -4, "--table-- 0 1"),
            ("{1} 0 1 put", -4, "--procedure-- 0 1"),
            ("1 array 0 keep put", -4, "--array-- 0 --state--"),
            ("1 array 5 keep put", -4, "--array-- 5 --state--"),
            ("table /x keep put", -4, "--table-- x --state--"),
            ("1 array 1 7 put", -5, "--array-- 1 7"),
            ("1 array -1 7 put", -5, "--array-- -1 7"),
            ("0 array 0 7 put", -5, "--array-- 0 7"),
        )

    def test_a_put_that_goes_wrong_changes_nothing(self):
        self.check(("/a [ 1 2 ] def a {} forall", 0, "1 2"),)
        self.assertEqual(outcome("/a [ 1 2 ] def a -1 9 put", "clear a {} forall"), (0, "1 2"))
        self.assertEqual(outcome("/a [ 1 2 ] def a 0 keep put", "clear a {} forall"), (0, "1 2"))
        self.assertEqual(outcome("/t table def t /x keep put", "clear t length"), (0, "0"))
        self.assertEqual(outcome("/x keep def", "clear /x load"), (-6, "x"))
