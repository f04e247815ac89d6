"""Points 1 to 4 and 6 to 8 and the interface of printlane/lane.py."""

import unittest

from printlane.errors import Broke, LaneError, NoJob, NoOwner, NoPages
from printlane.lane import Lane

THIRTY = 10 ** 30 - 1
THIRTY_TWO = 10 ** 32 - 1
BEYOND = 10 ** 40
BIG = (THIRTY, THIRTY_TWO, BEYOND)


class LaneCase(unittest.TestCase):
    def assert_refused(self, refusal, deed, *arguments):
        with self.assertRaises(LaneError) as caught:
            deed(*arguments)
        self.assertIs(type(caught.exception), refusal)

    def assert_budget(self, lane, owner, pages):
        """The owner's budget has just so many pages; behind it the lane is as it was, but for the numbers."""
        self.assert_refused(Broke, lane.send, owner, pages + 1)
        if pages > 0:
            self.assertEqual(lane.stop(lane.send(owner, pages)), pages)

    def assert_runs(self, lane, letters):
        """The pages of the next ticks, one run for each: p where one is printed, a dot where none is."""
        self.assertEqual("".join(".p"[lane.run(1)] for letter in letters), letters)


class NumberTest(LaneCase):
    def test_jobs_are_numbered_from_nought_over_all_owners(self):
        lane = Lane(3, 1, [9, 9, 9])
        self.assertEqual([lane.send(owner, 2) for owner in (2, 0, 1, 0, 2)], [0, 1, 2, 3, 4])

    def test_a_refused_job_takes_no_number(self):
        lane = Lane(3, 1, [9])
        self.assertEqual(lane.send(0, 1), 0)
        self.assert_refused(NoOwner, lane.send, 1, 1)
        self.assert_refused(NoPages, lane.send, 0, 0)
        self.assert_refused(Broke, lane.send, 0, 9)
        self.assertEqual(lane.send(0, 1), 1)

    def test_the_first_number_is_nought_also_behind_refusals(self):
        lane = Lane(3, 1, [0])
        self.assert_refused(Broke, lane.send, 0, 1)
        lane.grant(0, 1)
        self.assertEqual(lane.send(0, 1), 0)

    def test_a_number_is_not_given_again(self):
        lane = Lane(9, 1, [9])
        self.assertEqual(lane.send(0, 1), 0)
        lane.run(1)
        self.assertEqual(lane.send(0, 1), 1)
        lane.stop(1)
        self.assertEqual(lane.send(0, 1), 2)


class SendTest(LaneCase):
    def test_the_pages_leave_the_budget_of_the_owner_alone(self):
        lane = Lane(3, 1, [10, 10])
        lane.send(1, 4)
        self.assert_budget(lane, 0, 10)
        self.assert_budget(lane, 1, 6)

    def test_the_job_comes_to_the_end_of_the_row(self):
        lane = Lane(9, 0, [10, 10])
        lane.send(1, 2)
        lane.send(0, 3)
        lane.send(1, 1)
        lane.run(3)
        self.assertEqual(lane.stop(1), 2)
        self.assertEqual(lane.stop(2), 1)
        self.assert_refused(NoJob, lane.stop, 0)

    def test_an_owner_below_nought_and_one_behind_the_last(self):
        lane = Lane(3, 1, [10, 10])
        for owner in (-1, -2, -3, 2, 3, THIRTY, -THIRTY):
            with self.subTest(owner=owner):
                self.assert_refused(NoOwner, lane.send, owner, 1)
        self.assertEqual(lane.send(1, 1), 0)
        self.assertEqual(lane.send(0, 1), 1)

    def test_a_lane_without_owners(self):
        lane = Lane(3, 1, [])
        for owner in (-1, 0, 1):
            with self.subTest(owner=owner):
                self.assert_refused(NoOwner, lane.send, owner, 1)
                self.assert_refused(NoOwner, lane.grant, owner, 1)
        self.assert_refused(NoJob, lane.stop, 0)
        self.assertEqual(lane.run(3), 0)

    def test_less_than_one_page(self):
        lane = Lane(3, 1, [10])
        for pages in (0, -1, -7, -THIRTY):
            with self.subTest(pages=pages):
                self.assert_refused(NoPages, lane.send, 0, pages)
        self.assertEqual(lane.send(0, 1), 0)

    def test_as_many_pages_as_the_budget_has_and_one_more(self):
        for budget in (1, 2, 10):
            with self.subTest(budget=budget):
                lane = Lane(3, 1, [budget])
                self.assert_refused(Broke, lane.send, 0, budget + 1)
                self.assertEqual(lane.send(0, budget), 0)
                self.assert_refused(Broke, lane.send, 0, 1)

    def test_an_owner_without_pages(self):
        lane = Lane(3, 1, [0, 5])
        self.assert_refused(Broke, lane.send, 0, 1)
        self.assert_refused(NoPages, lane.send, 0, 0)
        self.assertEqual(lane.send(1, 5), 0)

    def test_the_budget_of_another_owner_does_not_help(self):
        lane = Lane(3, 1, [2, 50])
        self.assert_refused(Broke, lane.send, 0, 3)

    def test_of_several_refusals_it_is_the_one_named_first(self):
        lane = Lane(3, 1, [0, -5])
        for owner in (-1, 2):
            for pages in (-1, 0, 1, 99):
                with self.subTest(owner=owner, pages=pages):
                    self.assert_refused(NoOwner, lane.send, owner, pages)
        # Nought pages are more than a budget below nought has.
        self.assert_refused(NoPages, lane.send, 1, 0)
        self.assert_refused(NoPages, lane.send, 1, -4)


class StopTest(LaneCase):
    def test_a_job_wherever_it_stands_in_the_row(self):
        for job, left in ((0, 2), (1, 3), (2, 4)):
            with self.subTest(job=job):
                lane = Lane(99, 1, [20])
                for pages in (2, 3, 4):
                    lane.send(0, pages)
                self.assertEqual(lane.stop(job), left)
                self.assert_refused(NoJob, lane.stop, job)
                self.assertEqual(lane.run(20), 9 - left)

    def test_the_others_keep_their_order(self):
        for job, second in ((0, 1), (1, 0), (2, 0)):
            with self.subTest(job=job):
                lane = Lane(99, 1, [20])
                for pages in (1, 1, 1):
                    lane.send(0, pages)
                lane.stop(job)
                lane.run(1)
                self.assert_refused(NoJob, lane.stop, second)
                self.assertEqual(lane.stop(3 - job - second), 1)

    def test_the_pages_go_back_to_their_owner(self):
        lane = Lane(3, 1, [10, 10])
        lane.send(0, 4)
        lane.send(1, 7)
        self.assertEqual(lane.stop(1), 7)
        self.assert_budget(lane, 0, 6)
        self.assert_budget(lane, 1, 10)

    def test_only_the_pages_that_are_not_printed_go_back(self):
        lane = Lane(9, 1, [10])
        lane.send(0, 6)
        lane.run(4)
        self.assertEqual(lane.stop(0), 2)
        self.assert_budget(lane, 0, 6)
        self.assertEqual(lane.run(3), 0)

    def test_with_one_page_left(self):
        lane = Lane(9, 1, [3])
        lane.send(0, 3)
        lane.run(2)
        self.assertEqual(lane.stop(0), 1)
        self.assert_budget(lane, 0, 1)

    def test_a_number_that_was_never_given(self):
        lane = Lane(3, 1, [10])
        self.assert_refused(NoJob, lane.stop, 0)
        lane.send(0, 1)
        lane.send(0, 2)
        for job in (2, 3, THIRTY):
            with self.subTest(job=job):
                self.assert_refused(NoJob, lane.stop, job)

    def test_a_number_below_nought(self):
        lane = Lane(3, 1, [10])
        lane.send(0, 1)
        lane.send(0, 2)
        for job in (-1, -2, -3, -THIRTY):
            with self.subTest(job=job):
                self.assert_refused(NoJob, lane.stop, job)
        self.assertEqual(lane.run(9), 3)

    def test_a_job_that_is_printed_to_its_last_page(self):
        lane = Lane(9, 1, [10])
        lane.send(0, 2)
        lane.send(0, 2)
        lane.run(2)
        self.assert_refused(NoJob, lane.stop, 0)
        self.assert_budget(lane, 0, 6)
        self.assertEqual(lane.stop(1), 2)

    def test_a_job_that_is_stopped_already(self):
        lane = Lane(9, 1, [10])
        lane.send(0, 2)
        lane.stop(0)
        self.assert_refused(NoJob, lane.stop, 0)
        self.assert_budget(lane, 0, 10)

    def test_it_leaves_the_count_and_the_rest_as_they_are(self):
        lane = Lane(3, 2, [20])
        lane.send(0, 5)
        lane.run(2)
        lane.stop(0)
        lane.send(0, 5)
        self.assert_runs(lane, "p..")
        lane.send(0, 5)
        lane.run(3)
        lane.stop(1)
        self.assert_runs(lane, "..ppp..")


class GrantTest(LaneCase):
    def test_the_budget_of_the_owner_alone_gets_more(self):
        lane = Lane(3, 1, [1, 2])
        lane.grant(1, 5)
        self.assert_budget(lane, 0, 1)
        self.assert_budget(lane, 1, 7)

    def test_nought_pages_more(self):
        lane = Lane(3, 1, [4, 0])
        lane.grant(0, 0)
        lane.grant(1, 0)
        self.assert_budget(lane, 0, 4)
        self.assert_budget(lane, 1, 0)

    def test_it_gives_back_nothing(self):
        lane = Lane(3, 1, [4])
        self.assertIsNone(lane.grant(0, 0))
        self.assertIsNone(lane.grant(0, 3))

    def test_an_owner_below_nought_and_one_behind_the_last(self):
        lane = Lane(3, 1, [4, 6])
        for owner in (-1, -2, -3, 2, 3, THIRTY, -THIRTY):
            for many in (0, 1):
                with self.subTest(owner=owner, many=many):
                    self.assert_refused(NoOwner, lane.grant, owner, many)
        self.assert_budget(lane, 0, 4)
        self.assert_budget(lane, 1, 6)

    def test_jobs_that_wait_and_the_press_are_left_as_they_are(self):
        lane = Lane(2, 2, [5])
        lane.send(0, 5)
        lane.run(1)
        lane.grant(0, 3)
        self.assert_runs(lane, "p..pp")
        self.assert_budget(lane, 0, 3)


class RunTest(LaneCase):
    def test_of_nought_ticks(self):
        lane = Lane(2, 1, [5])
        self.assertEqual(lane.run(0), 0)
        lane.send(0, 3)
        self.assertEqual(lane.run(0), 0)
        self.assertEqual(lane.stop(0), 3)

    def test_of_nought_ticks_leaves_the_press_as_it_is(self):
        lane = Lane(2, 2, [9])
        lane.send(0, 1)
        lane.run(1)
        lane.run(0)
        lane.send(0, 5)
        lane.run(1)
        lane.run(0)
        self.assert_runs(lane, "..pp..")

    def test_of_one_tick(self):
        lane = Lane(1, 1, [5])
        self.assertEqual(lane.run(1), 0)
        lane.send(0, 2)
        self.assertEqual([lane.run(1) for turn in range(5)], [1, 0, 1, 0, 0])

    def test_of_many_ticks(self):
        for many, pages in ((1, 1), (3, 3), (4, 3), (5, 3), (6, 4), (8, 6), (10, 6), (11, 7), (99, 7)):
            with self.subTest(many=many):
                lane = Lane(3, 2, [7])
                lane.send(0, 7)
                self.assertEqual(lane.run(many), pages)

    def test_of_a_thousand_ticks_and_somewhat_more(self):
        for many in (999, 1000, 1001, 1500, 3000):
            with self.subTest(many=many):
                lane = Lane(2, 1, [9999])
                lane.send(0, 9999)
                pages = many - many // 3
                self.assertEqual(lane.run(many), pages)
                self.assertEqual(lane.stop(0), 9999 - pages)

    def test_a_job_ends_within_a_run_and_the_next_begins(self):
        lane = Lane(99, 1, [9, 9])
        lane.send(0, 2)
        lane.send(1, 3)
        self.assertEqual(lane.run(4), 4)
        self.assert_refused(NoJob, lane.stop, 0)
        self.assertEqual(lane.stop(1), 1)
        self.assert_budget(lane, 0, 7)
        self.assert_budget(lane, 1, 7)

    def test_the_count_goes_on_from_job_to_job(self):
        lane = Lane(3, 2, [9])
        for turn in range(5):
            lane.send(0, 1)
        self.assert_runs(lane, "ppp..pp..")

    def test_the_count_and_the_rest_go_on_from_run_to_run(self):
        lane = Lane(3, 2, [20])
        lane.send(0, 20)
        self.assertEqual([lane.run(2) for turn in range(10)], [2, 1, 1, 2, 0, 2, 1, 1, 2, 0])

    def test_a_rest_goes_on_where_no_job_waits(self):
        lane = Lane(2, 3, [9])
        lane.send(0, 2)
        self.assert_runs(lane, "pp..")
        lane.send(0, 3)
        self.assert_runs(lane, ".pp...p")

    def test_a_rest_that_is_over_is_not_taken_again(self):
        lane = Lane(2, 3, [9])
        lane.send(0, 2)
        self.assert_runs(lane, "pp...")
        lane.send(0, 2)
        self.assert_runs(lane, "pp")

    def test_an_idle_tick_brings_the_count_to_nought(self):
        lane = Lane(3, 2, [20])
        lane.send(0, 2)
        self.assert_runs(lane, "pp.")
        lane.send(0, 9)
        self.assert_runs(lane, "ppp..ppp..")

    def test_without_an_idle_tick_the_count_goes_on_over_an_empty_row(self):
        lane = Lane(3, 2, [20])
        lane.send(0, 2)
        self.assert_runs(lane, "pp")
        lane.send(0, 9)
        self.assert_runs(lane, "p..ppp..")

    def test_a_pause_of_nought(self):
        for limit in (1, 2, 5):
            with self.subTest(limit=limit):
                lane = Lane(limit, 0, [9])
                lane.send(0, 4)
                lane.send(0, 5)
                self.assertEqual(lane.run(7), 7)
                self.assertEqual(lane.run(7), 2)

    def test_a_limit_of_one(self):
        lane = Lane(1, 2, [9])
        lane.send(0, 1)
        lane.send(0, 2)
        self.assert_runs(lane, "p..p..p....")

    def test_a_limit_that_is_never_reached(self):
        lane = Lane(11, 5, [10])
        lane.send(0, 4)
        lane.send(0, 6)
        self.assertEqual(lane.run(20), 10)

    def test_a_limit_that_the_last_page_reaches(self):
        lane = Lane(10, 5, [11])
        lane.send(0, 10)
        self.assertEqual(lane.run(10), 10)
        lane.send(0, 1)
        self.assert_runs(lane, ".....p")


class RefusedTest(LaneCase):
    def refuse_all(self, lane):
        self.assert_refused(NoOwner, lane.send, 2, 1)
        self.assert_refused(NoOwner, lane.send, -1, 1)
        self.assert_refused(NoPages, lane.send, 0, 0)
        self.assert_refused(NoPages, lane.send, 0, -3)
        self.assert_refused(Broke, lane.send, 1, 99)
        self.assert_refused(NoJob, lane.stop, 9)
        self.assert_refused(NoJob, lane.stop, -1)
        self.assert_refused(NoOwner, lane.grant, 2, 5)
        self.assert_refused(NoOwner, lane.grant, -1, 5)

    def test_it_changes_neither_budgets_nor_numbers(self):
        lane = Lane(3, 2, [10, 20])
        lane.send(0, 4)
        self.refuse_all(lane)
        self.assertEqual(lane.send(0, 1), 1)
        self.assert_budget(lane, 0, 5)
        self.assert_budget(lane, 1, 20)

    def test_it_changes_neither_the_row_nor_the_press(self):
        lane = Lane(3, 2, [10, 20])
        lane.send(0, 4)
        lane.send(1, 3)
        letters = ""
        for turn in range(12):
            self.refuse_all(lane)
            letters += ".p"[lane.run(1)]
        self.assertEqual(letters, "ppp..ppp..p.")


class SizeTest(LaneCase):
    def test_budgets_and_pages(self):
        for big in BIG:
            with self.subTest(big=big):
                lane = Lane(4, 1, [big, big])
                self.assert_refused(Broke, lane.send, 0, big + 1)
                self.assertEqual(lane.send(0, big), 0)
                self.assert_refused(Broke, lane.send, 0, 1)
                self.assertEqual(lane.run(7), 6)
                self.assertEqual(lane.stop(0), big - 6)
                self.assert_budget(lane, 0, big - 6)
                self.assert_budget(lane, 1, big)

    def test_grants(self):
        for big in BIG:
            with self.subTest(big=big):
                lane = Lane(4, 1, [1])
                lane.grant(0, big)
                lane.grant(0, big)
                self.assert_budget(lane, 0, 2 * big + 1)

    def test_limits_and_pauses(self):
        for big in BIG:
            with self.subTest(big=big):
                lane = Lane(big, big, [2000])
                lane.send(0, 2000)
                self.assertEqual(lane.run(1000), 1000)
                lane = Lane(3, big, [2000])
                lane.send(0, 2000)
                self.assertEqual(lane.run(1000), 3)
                self.assertEqual(lane.run(1000), 0)

    def test_owners_and_job_numbers(self):
        lane = Lane(3, 1, [10])
        lane.send(0, 1)
        for big in BIG:
            for number in (big, -big):
                with self.subTest(number=number):
                    self.assert_refused(NoOwner, lane.send, number, 1)
                    self.assert_refused(NoOwner, lane.grant, number, 1)
                    self.assert_refused(NoJob, lane.stop, number)
            self.assert_refused(NoPages, lane.send, 0, -big)
            self.assert_refused(Broke, lane.send, 0, big)

    def test_many_owners_and_many_jobs(self):
        lane = Lane(7, 0, [3] * 1500)
        # Not assertEqual: to tell where lists of this length differ takes it minutes.
        self.assertTrue([lane.send(owner, 2) for owner in range(1500)] == list(range(1500)))
        self.assertEqual(lane.run(1000), 1000)
        self.assert_refused(NoJob, lane.stop, 499)
        self.assertTrue([lane.stop(job) for job in range(1499, 499, -1)] == [2] * 1000)


class KeptTest(LaneCase):
    def test_the_list_handed_in_is_as_it_was(self):
        budgets = [10, 20]
        lane = Lane(2, 1, budgets)
        lane.send(0, 4)
        lane.grant(1, 5)
        lane.run(3)
        lane.stop(0)
        self.assertEqual(budgets, [10, 20])

    def test_a_list_changed_behind_the_making_changes_no_lane(self):
        budgets = [10, 20]
        lane = Lane(2, 1, budgets)
        budgets[0] = 0
        budgets.append(30)
        self.assert_budget(lane, 0, 10)
        self.assert_refused(NoOwner, lane.send, 2, 1)
        budgets.clear()
        self.assert_budget(lane, 1, 20)

    def test_two_lanes_do_not_touch_each_other(self):
        budgets = [10, 20]
        one, other = Lane(2, 3, budgets), Lane(2, 3, budgets)
        one.send(0, 8)
        one.grant(1, 5)
        one.run(2)
        self.assert_refused(NoJob, other.stop, 0)
        self.assert_budget(other, 1, 20)
        other = Lane(2, 3, budgets)
        self.assertEqual(other.send(0, 10), 0)
        self.assert_runs(other, "pp...p")
        self.assertEqual(one.send(1, 25), 1)
        self.assert_runs(one, "...p")
        self.assertEqual(one.stop(0), 5)


class KindTest(LaneCase):
    def test_the_answers_are_whole_numbers(self):
        lane = Lane(2, 1, [10])
        given = [lane.send(0, 4), lane.run(0), lane.run(1), lane.run(5), lane.send(0, 2), lane.stop(1)]
        self.assertEqual([type(answer) for answer in given], [int] * 6)

    def test_the_arguments_bear_their_names(self):
        lane = Lane(limit=2, pause=1, budgets=[10])
        self.assertEqual(lane.send(owner=0, pages=4), 0)
        self.assertEqual(lane.run(many=4), 3)
        self.assertEqual(lane.stop(job=0), 1)
        self.assertIsNone(lane.grant(owner=0, many=2))
        self.assert_budget(lane, 0, 9)


if __name__ == "__main__":
    unittest.main()
