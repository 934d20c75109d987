import unittest

from stackwords.refusals import NoWayBack
from stackwords.store import Store
from tests.helper import CLEAR, Case, ask, outcome, run


class BroughtBack(Case):
    def test_keep_puts_a_state(self):
        self.check(("1 keep", 0, "1 --state--"), ("1 keep back", 0, "1"))

    def test_arrays_hold_what_they_held(self):
        self.check(
            ("/a [ 1 2 ] def keep a 0 9 put a 1 8 put back a {} forall", 0, "1 2"),
            ("/a [ [ 1 ] ] def keep a 0 get 0 9 put a 0 5 put back a 0 get 0 get", 0, "1"),
            ("/a 1 array def a 0 5 put keep a 0 6 put back a 0 get", 0, "5"),
        )

    def test_tables_hold_what_they_held(self):
        self.check(
            ("/x 1 def keep /x 2 def back x", 0, "1"),
            ("keep /x 2 def back x", -6, ""),
            ("/t table def t /x 1 put keep t /x 2 put t /y 3 put back t length t /x get", 0, "1 1"),
        )

    def test_shared_things_stay_shared(self):
        self.check(("/a 1 array def /b a def keep a 0 5 put back b 0 7 put a 0 get a b eq", 0, "7 true"),)

    def test_the_stack_stays(self):
        self.check(("1 keep 2 3 4 3 -1 roll pop pop pop back", 0, "1"), ("/s 1 def keep 5 exch back", 0, "5"))

    def test_the_open_tables_stay_open(self):
        self.check(
            ("/t table def keep t begin back /x 1 def end t /x known", 0, "true"),
            ("table dup begin keep end back /x 1 def /x known", 0, "false"),
        )

    def test_what_an_older_array_held_of_newer_ones_goes(self):
        self.check(("/a 1 array def keep a 0 1 array put a 0 table put back a 0 get", 0, "0"),)

    def test_twice_over(self):
        text = "/a 1 array def keep a 0 1 put keep a 0 2 put back a 0 get exch a 0 3 put back a 0 get"
        self.check((text, 0, "1 0"))

    def test_an_older_one_takes_the_newer_ones_along(self):
        self.check(
            ("/a 1 array def keep a 0 1 put keep a 0 2 put pop back a 0 get", 0, "0"),
            ("/x 0 def keep /x 1 def keep pop /x 2 def keep pop back x", 0, "0"),
        )

    def test_what_is_put_after_back_does_not_reach_older_states(self):
        text = "/a 1 array def /x 0 def keep keep back a 0 5 put /x 5 def keep a 0 6 put back a 0 get exch back a 0 get x"
        self.check(
            (text, 0, "5 0 0"),
            ("/a 1 array def keep keep a 0 9 put back a 0 5 put back a 0 get", 0, "0"),
            ("/x 0 def keep keep /x 9 def back /x 5 def back x", 0, "0"),
        )

    def test_across_runs(self):
        self.assertEqual(outcome("/x 1 def keep", "/x 2 def", "back x"), (0, "1"))

    def test_when_a_run_goes_wrong_between(self):
        self.assertEqual(outcome("/x 1 def keep /x 2 def nothing", "back x"), (0, "1"))

    def test_new_arrays_after_back_are_new(self):
        self.check(("keep [ 1 2 3 ] pop back [ 7 ] {} forall", 0, "7"), ("keep table /x 1 put back table length", 0, "0"))


class RoomAgain(Case):
    def test_states(self):
        self.check(
            ("keep keep keep keep back back back back keep keep keep keep clear", 0, ""),
            ("keep 3 {keep pop} repeat back 4 {keep pop} repeat", 0, ""),
            ("keep 3 {keep pop} repeat back 4 {keep pop} repeat keep", -7, ""),
        )

    def test_arrays(self):
        self.check(
            ("100 {0 array pop} repeat keep 156 {0 array pop} repeat back 156 {0 array pop} repeat", 0, ""),
            ("100 {0 array pop} repeat keep 156 {0 array pop} repeat back 156 {0 array pop} repeat [", 0, "--mark--"),
            ("100 {0 array pop} repeat keep 156 {0 array pop} repeat back 157 {0 array pop} repeat", -7, "0"),
        )

    def test_items(self):
        self.check(
            ("1000 array pop keep 1048 array pop back 1048 array length", 0, "1048"),
            ("1000 array pop keep 1048 array pop back 1049 array", -7, "1049"),
        )

    def test_tables(self):
        self.check(
            ("table keep 30 {table pop} repeat back 30 {table pop} repeat", 0, "--table--"),
            ("table keep 30 {table pop} repeat back 31 {table pop} repeat", -7, "--table--"),
        )

    def test_names(self):
        names = " ".join(f"/n{i} 0 def" for i in range(64))
        self.assertEqual(outcome("keep " + names, "back " + names), (0, ""))


class NoBack(Case):
    def test_kinds(self):
        self.check(("back", -3, ""), ("1 back", -4, "1"), ("[ back", -4, "--mark--"), ("keep 1 back", -4, "--state-- 1"))

    def test_things_on_the_stack(self):
        self.check(
            ("keep 1 array exch back", -9, "--array-- --state--"),
            ("keep [ 1 ] 5 3 -1 roll back", -9, "--array-- 5 --state--"),
            ("keep table exch back", -9, "--table-- --state--"),
            ("keep dup back", -9, "--state-- --state--"),
            ("keep keep exch back", -9, "--state-- --state--"),
            ("keep keep back", 0, "--state--"),
            ("keep keep back back", 0, ""),
        )

    def test_older_things_on_the_stack(self):
        self.check(
            ("1 array table keep back", 0, "--array-- --table--"),
            ("0 array 0 array keep 1 array pop back", 0, "--array-- --array--"),
            ("keep 7 /a true [ {1} 6 -1 roll back", 0, "7 a true --mark-- --procedure--"),
        )

    def test_an_older_array_that_holds_a_newer_one(self):
        self.check(("1 array dup keep exch 0 1 array put back 0 get", 0, "0"),)

    def test_open_tables(self):
        self.check(
            ("keep table begin back", -9, "--state--"),
            ("keep table begin table begin end back", -9, "--state--"),
            ("keep table begin end back", 0, ""),
            ("table begin keep back", 0, ""),
            ("keep table begin table dup begin pop end end back", 0, ""),
        )

    def test_the_arrays_of_forall(self):
        self.check(
            ("keep [ 1 ] {pop back} forall", -9, "--state--"),
            ("keep [ 1 ] {pop {back} exec} forall", -9, "--state--"),
            ("keep [ 1 ] {pop [ ] {} forall 1 {back} repeat} forall", -9, "--state--"),
            ("[ 1 ] keep exch {pop back} forall", 0, ""),
            ("keep [ 1 ] {pop} forall back", 0, ""),
            ("keep [ 1 ] {pop exit} forall back", 0, ""),
        )

    def test_forall_goes_on_over_an_array_that_is_brought_back(self):
        self.check(("/a [ 1 2 3 ] def keep a {exch a 2 9 put back 5 exch keep} forall", 0, "5 1 5 2 5 3 --state--"))
        self.check(("/a [ 1 2 3 ] def a {keep a 2 9 put back} forall", 0, "1 2 3"))

    def test_a_forall_of_an_earlier_run_does_not_hinder(self):
        self.assertEqual(outcome("keep [ 1 ] {nothing} forall", "pop back"), (0, ""))

    def test_nothing_is_brought_back_then(self):
        self.assertEqual(outcome("/x 1 def keep /x 2 def dup back", "pop x exch back x"), (0, "2 1"))
        self.assertEqual(outcome("keep keep keep exch back", "clear 1 {keep pop} repeat", "keep"), (-7, ""))

    def test_pl_clear_leaves_no_state(self):
        rows = ask(run("keep keep keep keep"), CLEAR, run("keep keep keep keep"))
        self.assertEqual(rows, [[0, 0], [0], [0, 0]])


class StoreAlone(unittest.TestCase):
    def test_a_state_that_is_no_more(self):
        store = Store()
        first = store.keep_state()
        second = store.keep_state()
        store.bring_back(store.state_of(first[1]))
        third = store.keep_state()
        self.assertNotIn(third[1], (first[1], second[1]))
        for gone in (first, second):
            with self.assertRaises(NoWayBack):
                store.state_of(gone[1])
        self.assertEqual(store.state_of(third[1]).number, third[1])
