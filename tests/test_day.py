"""Points 1 to 8 and the interface of printlane/day.py."""

import copy
import itertools
import unittest

from printlane.day import accounts, answers, diary

THIRTY = 10 ** 30 - 1
THIRTY_TWO = 10 ** 32 - 1
BEYOND = 10 ** 40
BIG = (THIRTY, THIRTY_TWO, BEYOND)

REST = ("rest",)
IDLE = ("idle",)

DAY = (2, 1, [10, 4], [
    ("send", 0, 3),
    ("send", 1, 2),
    ("run", 5),
    ("stop", 1),
    ("grant", 1, 6),
    ("send", 1, 9),
    ("run", 4),
])


def page(job, number):
    return ("page", job, number)


class Model:
    """The document's day told in another way: single pages in a row, and a press that looks back at its ticks."""

    def __init__(self, limit, pause, budgets):
        self.limit, self.pause = limit, pause
        self.pages = [["budget"] * budget for budget in budgets]
        self.row, self.told, self.jobs = [], [], 0

    def due(self):
        behind = len(self.told)
        while behind > 0 and self.told[behind - 1] == REST:
            behind -= 1
        rests = len(self.told) - behind
        first = behind
        while first > 0 and self.told[first - 1][0] == "page":
            first -= 1
        full = behind > first and (behind - first) % self.limit == 0
        return full and rests < self.pause

    def tick(self):
        if self.due():
            self.told.append(REST)
        elif self.row:
            owner, job, number = self.row.pop(0)
            self.move(owner, "waits", "printed", 1)
            self.told.append(page(job, number))
        else:
            self.told.append(IDLE)

    def move(self, owner, old, new, many):
        for turn in range(many):
            self.pages[owner].remove(old)
            self.pages[owner].append(new)

    def do(self, deed):
        what, named = deed[0], deed[1]
        if what in ("send", "grant") and named not in range(len(self.pages)):
            return "no owner"
        return getattr(self, what)(*deed[1:])

    def send(self, owner, pages):
        if pages < 1:
            return "no pages"
        if self.pages[owner].count("budget") < pages:
            return "broke"
        self.move(owner, "budget", "waits", pages)
        self.row += [(owner, self.jobs, number + 1) for number in range(pages)]
        self.jobs += 1
        return self.jobs - 1

    def stop(self, job):
        stopped = [entry for entry in self.row if entry[1] == job]
        if not stopped:
            return "no job"
        self.row = [entry for entry in self.row if entry[1] != job]
        self.move(stopped[0][0], "waits", "budget", len(stopped))
        return len(stopped)

    def run(self, many):
        before = len(self.told)
        for turn in range(many):
            self.tick()
        return len([tick for tick in self.told[before:] if tick[0] == "page"])

    def grant(self, owner, many):
        self.pages[owner] += ["budget"] * many
        return "done"

    def accounts(self):
        return [tuple(pages.count(where) for where in ("budget", "printed", "waits")) for pages in self.pages]


def short_days():
    """Every day of up to four deeds out of a few, and then a run to its end, under several presses."""
    deeds = (("send", 0, 2), ("send", 1, 3), ("stop", 0), ("stop", 1), ("run", 1), ("run", 3), ("grant", 0, 1),
             ("send", 1, 9))
    for limit, pause in ((1, 0), (1, 2), (2, 0), (2, 1), (3, 2), (9, 9)):
        for many in range(5):
            for chosen in itertools.product(deeds, repeat=many):
                yield limit, pause, [3, 5], list(chosen) + [("run", 7)]


def long_days():
    """Days of many deeds, right ones and wrong ones, drawn from the figures of a large power."""
    figures = [int(figure) for figure in str(7 ** 4000)]
    for day in range(50):
        deeds = []
        for turn in range(60):
            first, second, third = figures[60 * day + turn:60 * day + turn + 3]
            deeds.append((
                ("send", first % 5 - 1, second - 1),
                ("run", second),
                ("stop", turn // 3 - third),
                ("send", first % 3, third),
                ("grant", second % 5 - 1, third),
            )[(first + third) % 5])
        yield day % 4 + 1, day % 3, [9, 0, 30], deeds


class ModelTest(unittest.TestCase):
    def assert_like_the_model(self, limit, pause, budgets, deeds):
        model = Model(limit, pause, budgets)
        told = [model.do(deed) for deed in deeds]
        day = (limit, pause, budgets, deeds)
        self.assertEqual(answers(*day), told, day)
        self.assertEqual(diary(*day), model.told, day)
        self.assertEqual(accounts(*day), model.accounts(), day)

    def test_every_short_day(self):
        for day in short_days():
            self.assert_like_the_model(*day)

    def test_long_days(self):
        for day in long_days():
            self.assert_like_the_model(*day)

    def test_the_long_days_hold_every_answer_and_every_tick(self):
        told = [answer for day in long_days() for answer in answers(*day)]
        for text in ("done", "no owner", "no pages", "broke", "no job"):
            with self.subTest(text=text):
                self.assertGreater(told.count(text), 20)
        ticks = [tick[0] for day in long_days() for tick in diary(*day)]
        for text in ("page", "rest", "idle"):
            with self.subTest(text=text):
                self.assertGreater(ticks.count(text), 200)


class PromiseTest(unittest.TestCase):
    """Point 8, over whole days."""

    def test_the_pages_of_an_owner_are_what_was_had_and_granted(self):
        for limit, pause, budgets, deeds in long_days():
            had = list(budgets)
            for deed, answer in zip(deeds, answers(limit, pause, budgets, deeds)):
                if answer == "done":
                    had[deed[1]] += deed[2]
            held = accounts(limit, pause, budgets, deeds)
            self.assertEqual([sum(account) for account in held], had)

    def test_the_pages_of_a_job_are_printed_in_their_order_and_none_twice(self):
        for day in long_days():
            seen = {}
            for tick in diary(*day):
                if tick[0] == "page":
                    self.assertEqual(tick[2], seen.get(tick[1], 0) + 1)
                    seen[tick[1]] = tick[2]

    def test_no_job_is_printed_before_one_that_was_sent_earlier(self):
        for day in long_days():
            jobs = [tick[1] for tick in diary(*day) if tick[0] == "page"]
            self.assertEqual(jobs, sorted(jobs))

    def test_the_answers_of_runs_are_the_pages_of_the_diary(self):
        for limit, pause, budgets, deeds in long_days():
            told = answers(limit, pause, budgets, deeds)
            pages = sum(answer for deed, answer in zip(deeds, told) if deed[0] == "run")
            ticks = diary(limit, pause, budgets, deeds)
            self.assertEqual(pages, len([tick for tick in ticks if tick[0] == "page"]))
            self.assertEqual(pages, sum(account[1] for account in accounts(limit, pause, budgets, deeds)))


class AnswersTest(unittest.TestCase):
    def test_one_answer_for_each_deed(self):
        self.assertEqual(answers(*DAY), [0, 1, 4, 1, "done", 2, 2])

    def test_no_deeds_at_all(self):
        for budgets in ([], [0], [5, 6]):
            with self.subTest(budgets=budgets):
                self.assertEqual(answers(2, 1, budgets, []), [])

    def test_an_owner_without_pages(self):
        deeds = [("send", 0, 1), ("run", 2), ("grant", 0, 1), ("send", 0, 1), ("run", 2)]
        self.assertEqual(answers(2, 1, [0], deeds), ["broke", 0, "done", 0, 1])

    def test_the_refusals_as_texts(self):
        deeds = [
            ("send", -1, 1),
            ("send", 2, 1),
            ("send", 2, 0),
            ("send", -1, 99),
            ("grant", -1, 1),
            ("grant", 2, 0),
            ("send", 0, 0),
            ("send", 0, -1),
            ("send", 0, 6),
            ("stop", 0),
            ("stop", -1),
        ]
        self.assertEqual(answers(2, 1, [5, 5], deeds), ["no owner"] * 6 + ["no pages"] * 2 + ["broke"] + ["no job"] * 2)

    def test_a_refused_send_takes_no_number(self):
        deeds = [("send", 0, 9), ("send", 0, 1), ("send", 3, 1), ("send", 0, 0), ("send", 0, 1)]
        self.assertEqual(answers(2, 1, [5], deeds), ["broke", 0, "no owner", "no pages", 1])

    def test_stops(self):
        deeds = [("send", 0, 3), ("send", 0, 2), ("run", 1), ("stop", 0), ("stop", 0), ("run", 2), ("stop", 1)]
        self.assertEqual(answers(9, 1, [5], deeds), [0, 1, 1, 2, "no job", 2, "no job"])

    def test_pages_that_went_back_can_be_sent_again(self):
        deeds = [("send", 0, 5), ("run", 2), ("stop", 0), ("send", 0, 4), ("send", 0, 3)]
        self.assertEqual(answers(9, 1, [5], deeds), [0, 2, 3, "broke", 1])

    def test_grants_also_of_nought(self):
        deeds = [("grant", 0, 0), ("grant", 1, 3), ("send", 0, 6), ("send", 1, 8), ("send", 0, 5)]
        self.assertEqual(answers(9, 1, [5, 5], deeds), ["done", "done", "broke", 0, 1])

    def test_no_owners(self):
        deeds = [("send", 0, 1), ("grant", 0, 1), ("stop", 0), ("run", 2)]
        self.assertEqual(answers(9, 1, [], deeds), ["no owner", "no owner", "no job", 0])


class DiaryTest(unittest.TestCase):
    def test_every_tick_of_all_runs_in_their_order(self):
        ticks = [page(0, 1), page(0, 2), REST, page(0, 3), page(1, 1), REST, page(2, 1), page(2, 2), REST]
        self.assertEqual(diary(*DAY), ticks)

    def test_no_deeds_at_all_and_no_run(self):
        for deeds in ([], [("send", 0, 1)], [("run", 0)], [("send", 0, 1), ("run", 0)]):
            with self.subTest(deeds=deeds):
                self.assertEqual(diary(2, 1, [5], deeds), [])

    def test_an_owner_without_pages(self):
        self.assertEqual(diary(2, 1, [0], [("send", 0, 1), ("run", 2)]), [IDLE, IDLE])

    def test_no_owners(self):
        self.assertEqual(diary(2, 1, [], [("run", 1)]), [IDLE])

    def test_the_next_job_begins_with_its_first_page(self):
        deeds = [("send", 0, 2), ("send", 0, 2), ("run", 5)]
        self.assertEqual(diary(9, 1, [9], deeds), [page(0, 1), page(0, 2), page(1, 1), page(1, 2), IDLE])

    def test_a_job_goes_on_where_it_was_in_the_next_run(self):
        deeds = [("send", 0, 3), ("run", 1), ("send", 0, 1), ("run", 0), ("run", 3)]
        self.assertEqual(diary(9, 1, [9], deeds), [page(0, 1), page(0, 2), page(0, 3), page(1, 1)])

    def test_a_stopped_job_is_not_printed_on(self):
        deeds = [("send", 0, 3), ("send", 0, 2), ("send", 0, 1), ("run", 1), ("stop", 0), ("stop", 1), ("run", 2)]
        self.assertEqual(diary(9, 1, [9], deeds), [page(0, 1), page(2, 1), IDLE])

    def test_rests_go_on_where_no_job_waits(self):
        deeds = [("send", 0, 2), ("run", 4), ("send", 0, 1), ("run", 3)]
        ticks = [page(0, 1), page(0, 2), REST, REST, REST, page(1, 1), IDLE]
        self.assertEqual(diary(2, 3, [9], deeds), ticks)

    def test_an_idle_tick_brings_the_count_to_nought(self):
        deeds = [("send", 0, 1), ("run", 2), ("send", 0, 2), ("run", 3)]
        self.assertEqual(diary(2, 1, [9], deeds), [page(0, 1), IDLE, page(1, 1), page(1, 2), REST])

    def test_a_pause_of_nought(self):
        deeds = [("send", 0, 3), ("run", 4)]
        for limit in (1, 2, 3, 4):
            with self.subTest(limit=limit):
                self.assertEqual(diary(limit, 0, [9], deeds), [page(0, 1), page(0, 2), page(0, 3), IDLE])

    def test_a_limit_of_one(self):
        deeds = [("send", 0, 2), ("run", 5)]
        self.assertEqual(diary(1, 1, [9], deeds), [page(0, 1), REST, page(0, 2), REST, IDLE])

    def test_a_run_of_more_than_a_thousand_ticks(self):
        for many in (1000, 1001, 1500):
            with self.subTest(many=many):
                ticks = diary(999, 1, [9999], [("send", 0, 9999), ("run", many)])
                self.assertEqual(len(ticks), many)
                self.assertEqual(ticks[998:1000], [page(0, 999), REST])
                self.assertTrue(ticks[1000:] == [page(0, number) for number in range(1000, many)])


class AccountsTest(unittest.TestCase):
    def test_a_tuple_for_each_owner_in_their_order(self):
        self.assertEqual(accounts(*DAY), [(7, 3, 0), (0, 3, 7)])

    def test_no_deeds_at_all(self):
        for budgets in ([], [0], [5, 0, 6]):
            with self.subTest(budgets=budgets):
                self.assertEqual(accounts(2, 1, budgets, []), [(budget, 0, 0) for budget in budgets])

    def test_an_owner_without_pages(self):
        self.assertEqual(accounts(2, 1, [0, 3], [("send", 0, 1), ("send", 1, 3), ("run", 1)]), [(0, 0, 0), (0, 1, 2)])

    def test_several_jobs_of_an_owner_come_together(self):
        deeds = [("send", 0, 2), ("send", 1, 3), ("send", 0, 4), ("run", 3)]
        self.assertEqual(accounts(9, 1, [10, 10], deeds), [(4, 2, 4), (7, 1, 2)])

    def test_a_stop_brings_back_what_is_not_printed(self):
        deeds = [("send", 0, 5), ("run", 2), ("stop", 0)]
        self.assertEqual(accounts(9, 1, [8], deeds), [(6, 2, 0)])

    def test_grants(self):
        deeds = [("grant", 1, 4), ("grant", 0, 0), ("grant", 1, 1)]
        self.assertEqual(accounts(9, 1, [8, 0], deeds), [(8, 0, 0), (5, 0, 0)])


class RefusedTest(unittest.TestCase):
    def test_refused_deeds_between_the_others_change_nothing(self):
        limit, pause, budgets, deeds = DAY
        refused = [("send", 2, 1), ("send", -1, 1), ("send", 0, 0), ("send", 1, 99), ("stop", 9), ("stop", -1),
                   ("grant", 2, 7), ("grant", -1, 7)]
        texts = ["no owner", "no owner", "no pages", "broke", "no job", "no job", "no owner", "no owner"]
        mixed = list(refused)
        told = list(texts)
        for deed, answer in zip(deeds, answers(*DAY)):
            mixed += [deed] + refused
            told += [answer] + texts
        self.assertEqual(answers(limit, pause, budgets, mixed), told)
        self.assertEqual(diary(limit, pause, budgets, mixed), diary(*DAY))
        self.assertEqual(accounts(limit, pause, budgets, mixed), accounts(*DAY))


class SizeTest(unittest.TestCase):
    def test_large_numbers_are_exact_and_not_refused(self):
        for big in BIG:
            with self.subTest(big=big):
                deeds = [("send", 0, big), ("grant", 0, big), ("send", 0, big + 1), ("run", 3), ("stop", big),
                         ("stop", -big), ("send", big, 1), ("grant", -big, 1), ("send", 1, -big), ("stop", 0)]
                day = (big, big, [big, 0], deeds)
                told = [0, "done", "broke", 3, "no job", "no job", "no owner", "no owner", "no pages", big - 3]
                self.assertEqual(answers(*day), told)
                self.assertEqual(diary(*day), [page(0, 1), page(0, 2), page(0, 3)])
                self.assertEqual(accounts(*day), [(2 * big - 3, 3, 0), (0, 0, 0)])
                self.assertEqual(accounts(2, big, [big], deeds[:4]), [(big, 2, big - 2)])

    def test_days_of_many_deeds(self):
        deeds = [("send", 0, 1), ("run", 1)] * 3000
        # Not assertEqual: to tell where lists of this length differ takes it minutes.
        self.assertTrue(answers(5, 0, [3000], deeds) == [part for job in range(3000) for part in (job, 1)])
        self.assertEqual(accounts(5, 0, [3000], deeds), [(0, 3000, 0)])


class KeptTest(unittest.TestCase):
    def test_the_lists_handed_in_are_as_they_were(self):
        for asked in (answers, diary, accounts):
            with self.subTest(asked=asked.__name__):
                limit, pause, budgets, deeds = copy.deepcopy(DAY)
                asked(limit, pause, budgets, deeds)
                self.assertEqual(budgets, DAY[2])
                self.assertEqual(deeds, DAY[3])

    def test_the_same_day_is_told_again_in_the_same_way(self):
        for asked in (answers, diary, accounts):
            with self.subTest(asked=asked.__name__):
                first = asked(*DAY)
                kept = list(first)
                second = asked(*DAY)
                self.assertEqual(second, kept)
                first.clear()
                self.assertEqual(second, kept)
                self.assertEqual(asked(*DAY), kept)


class KindTest(unittest.TestCase):
    def test_lists_of_whole_numbers_texts_and_tuples(self):
        for day in [DAY] + list(long_days()):
            for asked in (answers, diary, accounts):
                self.assertIs(type(asked(*day)), list)
            for answer in answers(*day):
                self.assertIn(type(answer), (int, str))
            for tick in diary(*day):
                self.assertIs(type(tick), tuple)
                self.assertEqual([type(part) for part in tick], [str, int, int] if tick[0] == "page" else [str])
            for account in accounts(*day):
                self.assertIs(type(account), tuple)
                self.assertEqual([type(part) for part in account], [int, int, int])

    def test_the_arguments_bear_their_names(self):
        limit, pause, budgets, deeds = DAY
        for asked in (answers, diary, accounts):
            with self.subTest(asked=asked.__name__):
                self.assertEqual(asked(limit=limit, pause=pause, budgets=budgets, deeds=deeds), asked(*DAY))


if __name__ == "__main__":
    unittest.main()
