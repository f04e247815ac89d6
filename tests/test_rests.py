"""Points 1, 3 and 4 and the interface of printlane/rests.py."""

import unittest

from printlane.rests import ticked

THIRTY = 10 ** 30 - 1
THIRTY_TWO = 10 ** 32 - 1
BEYOND = 10 ** 40


def walked(limit, pause, waits):
    """The first letters of the ticks from the beginning of a day, one for each of waits."""
    hot, resting, letters = 0, 0, ""
    for waiting in waits:
        what, hot, resting = ticked(limit, pause, hot, resting, waiting)
        letters += what[0]
    return letters


def allowed_calls():
    """Every call with small numbers that the interface allows."""
    for limit in range(1, 5):
        for pause in range(5):
            states = [(hot, 0) for hot in range(limit)]
            states += [(limit, resting) for resting in range(1, pause + 1)]
            for hot, resting in states:
                for waiting in (True, False):
                    yield limit, pause, hot, resting, waiting


class RestTest(unittest.TestCase):
    def test_a_rest_that_is_due_is_taken_whether_a_job_waits_or_not(self):
        for waiting in (True, False):
            with self.subTest(waiting=waiting):
                self.assertEqual(ticked(5, 3, 5, 3, waiting), ("rest", 5, 2))
                self.assertEqual(ticked(5, 3, 5, 2, waiting), ("rest", 5, 1))

    def test_the_count_is_nought_behind_the_last_rest(self):
        for waiting in (True, False):
            with self.subTest(waiting=waiting):
                self.assertEqual(ticked(5, 3, 5, 1, waiting), ("rest", 0, 0))

    def test_a_pause_of_one_is_first_and_last_rest_at_once(self):
        for limit in (1, 2, 7):
            for waiting in (True, False):
                with self.subTest(limit=limit, waiting=waiting):
                    self.assertEqual(ticked(limit, 1, limit, 1, waiting), ("rest", 0, 0))

    def test_a_limit_of_one_stays_hot_until_the_last_rest(self):
        self.assertEqual(ticked(1, 2, 1, 2, True), ("rest", 1, 1))
        self.assertEqual(ticked(1, 2, 1, 1, True), ("rest", 0, 0))


class IdleTest(unittest.TestCase):
    def test_idle_where_no_rest_is_due_and_no_job_waits(self):
        for pause in (0, 1, 3):
            with self.subTest(pause=pause):
                self.assertEqual(ticked(5, pause, 0, 0, False), ("idle", 0, 0))

    def test_the_count_is_nought_behind_an_idle_tick(self):
        for hot in range(1, 5):
            with self.subTest(hot=hot):
                self.assertEqual(ticked(5, 3, hot, 0, False), ("idle", 0, 0))

    def test_a_limit_of_one(self):
        self.assertEqual(ticked(1, 0, 0, 0, False), ("idle", 0, 0))
        self.assertEqual(ticked(1, 1, 0, 0, False), ("idle", 0, 0))


class PageTest(unittest.TestCase):
    def test_a_page_makes_the_count_one_more(self):
        for hot in range(4):
            for pause in (0, 1, 3):
                with self.subTest(hot=hot, pause=pause):
                    self.assertEqual(ticked(5, pause, hot, 0, True), ("page", hot + 1, 0))

    def test_the_page_that_reaches_the_limit_makes_the_whole_pause_due(self):
        self.assertEqual(ticked(5, 1, 4, 0, True), ("page", 5, 1))
        self.assertEqual(ticked(5, 3, 4, 0, True), ("page", 5, 3))
        self.assertEqual(ticked(5, 9, 4, 0, True), ("page", 5, 9))

    def test_with_no_pause_the_count_is_nought_at_once(self):
        self.assertEqual(ticked(5, 0, 4, 0, True), ("page", 0, 0))

    def test_a_limit_of_one_reaches_it_with_each_page(self):
        self.assertEqual(ticked(1, 0, 0, 0, True), ("page", 0, 0))
        self.assertEqual(ticked(1, 1, 0, 0, True), ("page", 1, 1))
        self.assertEqual(ticked(1, 4, 0, 0, True), ("page", 1, 4))


class SizeTest(unittest.TestCase):
    def test_large_numbers_are_exact_and_not_refused(self):
        for big in (THIRTY, THIRTY_TWO, BEYOND):
            with self.subTest(big=big):
                self.assertEqual(ticked(big, 2, big - 2, 0, True), ("page", big - 1, 0))
                self.assertEqual(ticked(big, 2, big - 1, 0, True), ("page", big, 2))
                self.assertEqual(ticked(big, 0, big - 1, 0, True), ("page", 0, 0))
                self.assertEqual(ticked(big, 0, big - 1, 0, False), ("idle", 0, 0))
                self.assertEqual(ticked(2, big, 1, 0, True), ("page", 2, big))
                self.assertEqual(ticked(2, big, 2, big, False), ("rest", 2, big - 1))
                self.assertEqual(ticked(big, big, big, 2, True), ("rest", big, 1))
                self.assertEqual(ticked(big, big, big, 1, True), ("rest", 0, 0))


class KindTest(unittest.TestCase):
    def test_the_answer_is_a_tuple_of_a_text_and_two_whole_numbers(self):
        for call in allowed_calls():
            with self.subTest(call=call):
                answer = ticked(*call)
                self.assertIs(type(answer), tuple)
                self.assertEqual([type(part) for part in answer], [str, int, int])
                self.assertIn(answer[0], ("page", "rest", "idle"))

    def test_the_arguments_bear_their_names(self):
        answer = ticked(limit=5, pause=3, hot=4, resting=0, waiting=True)
        self.assertEqual(answer, ("page", 5, 3))

    def test_the_state_behind_a_tick_may_be_handed_in_again(self):
        for call in allowed_calls():
            with self.subTest(call=call):
                limit, pause = call[:2]
                hot, resting = ticked(*call)[1:]
                self.assertTrue(0 <= resting <= pause)
                if resting > 0:
                    self.assertEqual(hot, limit)
                else:
                    self.assertTrue(0 <= hot < limit)


class WalkTest(unittest.TestCase):
    def test_pages_and_rests_take_turns_while_jobs_wait(self):
        self.assertEqual(walked(3, 2, [True] * 12), "ppprrppprrpp")
        self.assertEqual(walked(1, 1, [True] * 6), "prprpr")
        self.assertEqual(walked(1, 3, [True] * 9), "prrrprrrp")
        self.assertEqual(walked(2, 1, [True] * 7), "pprpprp")

    def test_with_no_pause_every_tick_is_a_page(self):
        self.assertEqual(walked(1, 0, [True] * 5), "ppppp")
        self.assertEqual(walked(3, 0, [True] * 8), "pppppppp")

    def test_the_press_is_idle_while_no_job_waits(self):
        self.assertEqual(walked(2, 3, [False] * 5), "iiiii")

    def test_an_idle_tick_breaks_the_row_of_pages(self):
        self.assertEqual(walked(3, 1, [True, True, False, True, True, True, True]), "ppipppr")

    def test_rests_are_taken_though_no_job_waits(self):
        self.assertEqual(walked(2, 2, [True, True, False, False, False, True, True, True]), "pprrippr")


if __name__ == "__main__":
    unittest.main()
