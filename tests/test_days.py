"""[3] and [8] to [10]: days, working days and due days."""

import unittest
from calendar import monthrange
from datetime import date, timedelta

from corebank.days import LAST_DAY, adjust, date_of, day_of, due_day, is_day, is_working, weekday
from corebank.errors import BadDay, BadValue
from tests.helper import Case

HOWS = ["none", "next", "previous", "modified"]
NO_DAYS = [-1, -2, -36524, 36525, 36526, 10 ** 12]


def calendar_day(day):
    return date(2000, 1, 1) + timedelta(days=day)


def number_of(year, month, in_month):
    return (date(year, month, in_month) - date(2000, 1, 1)).days


class IsDayTest(Case):

    def test_bounds(self):
        for number in [0, 1, 2, 20000, 36523, 36524]:
            self.answers(True, is_day, number)
        for number in NO_DAYS:
            self.answers(False, is_day, number)


class DateTest(Case):

    def test_by_hand(self):
        for day, told in [(0, (2000, 1, 1)), (1, (2000, 1, 2)), (30, (2000, 1, 31)), (31, (2000, 2, 1)),
                          (59, (2000, 2, 29)), (60, (2000, 3, 1)), (365, (2000, 12, 31)), (366, (2001, 1, 1)),
                          (424, (2001, 2, 28)), (425, (2001, 3, 1)), (1460, (2003, 12, 31)), (1461, (2004, 1, 1)),
                          (36523, (2099, 12, 30)), (36524, (2099, 12, 31))]:
            self.answers(told, date_of, day)
            self.answers(day, day_of, *told)

    def test_each_day(self):
        self.assertEqual(calendar_day(LAST_DAY), date(2099, 12, 31))
        for day in range(LAST_DAY + 1):
            known = calendar_day(day)
            told = date_of(day)
            self.assertEqual(told, (known.year, known.month, known.day))
            self.assertEqual(day_of(*told), day)
            self.assertEqual(weekday(day), known.weekday())

    def test_kinds(self):
        self.assertIs(type(date_of(0)), tuple)
        self.answers(5, weekday, 0)
        self.answers(6, weekday, 1)
        self.answers(0, weekday, 2)
        self.answers(4, weekday, 6)
        self.answers(5, weekday, 7)

    def test_no_such_day(self):
        for day in NO_DAYS:
            self.raises(BadDay, date_of, day)
            self.raises(BadDay, weekday, day)

    def test_no_such_date(self):
        for year in range(2000, 2100):
            for month in range(1, 13):
                last = monthrange(year, month)[1]
                for in_month in [-1, 0, last + 1, last + 2, 32, 100]:
                    self.raises(BadDay, day_of, year, month, in_month)
        for wrong in [(2001, 2, 29), (2100, 2, 29), (2000, 2, 30), (2004, 2, 30), (2001, 2, 30), (2001, 4, 31),
                      (2001, 0, 1), (2001, 13, 1), (2001, -1, 1), (2001, 1, 0), (2001, 1, -1), (1999, 12, 31),
                      (1999, 1, 1), (2100, 1, 1), (2100, 12, 31), (0, 1, 1), (-1, 1, 1), (99, 1, 1), (2000, 0, 0),
                      (2099, 12, 32), (2099, 13, 1), (10 ** 9, 1, 1), (2001, 10 ** 9, 1)]:
            self.raises(BadDay, day_of, *wrong)


class IsWorkingTest(Case):

    def test_weekdays(self):
        for day in range(14):
            self.answers(day % 7 >= 2, is_working, day, [])
        self.answers(True, is_working, LAST_DAY, [])

    def test_holidays(self):
        self.answers(False, is_working, 3, [3])
        self.answers(False, is_working, 3, [9, 3, 3, 1])
        self.answers(True, is_working, 4, [9, 3, 3, 1])
        self.answers(False, is_working, 7, [9, 3, 3, 1])
        self.answers(False, is_working, 7, [7])
        self.answers(False, is_working, 102, list(range(102, 2, -1)))
        self.answers(False, is_working, 3, list(range(102, 2, -1)))
        self.answers(True, is_working, 103, list(range(102, 2, -1)))

    def test_no_such_day(self):
        for day in NO_DAYS:
            self.raises(BadDay, is_working, day, [])
            self.raises(BadDay, is_working, day, [day])

    def test_the_list_stays(self):
        holidays = [9, 3, 3, 1]
        is_working(3, holidays)
        self.raises(BadDay, is_working, -1, holidays)
        self.assertEqual(holidays, [9, 3, 3, 1])


def adjusted(day, holidays, how):
    """The same as adjust, from the list of all working days nearby; None if there is none."""
    near = range(max(0, day - 250), min(LAST_DAY, day + 250) + 1)
    working = [at for at in near if calendar_day(at).weekday() < 5 and at not in holidays]
    later = [at for at in working if at >= day][:1]
    earlier = [at for at in working if at <= day][-1:]
    if how == "none":
        return day
    if how == "next":
        return later[0] if later else None
    if how == "modified" and later and calendar_day(later[0]).replace(day=1) == calendar_day(day).replace(day=1):
        return later[0]
    return earlier[0] if earlier else None


class AdjustTest(Case):

    def test_working_day(self):
        for how in HOWS:
            self.answers(3, adjust, 3, [], how)
            self.answers(3, adjust, 3, [2, 4], how)
            self.answers(LAST_DAY, adjust, LAST_DAY, [], how)

    def test_weekend(self):
        for day in [7, 8]:
            self.answers(day, adjust, day, [], "none")
            self.answers(9, adjust, day, [], "next")
            self.answers(6, adjust, day, [], "previous")
            self.answers(9, adjust, day, [], "modified")

    def test_holidays(self):
        holidays = [10, 9, 6, 9, 5]
        for day in [5, 6, 7, 8, 9, 10]:
            self.answers(day, adjust, day, holidays, "none")
            self.answers(11, adjust, day, holidays, "next")
            self.answers(4, adjust, day, holidays, "previous")
            self.answers(11, adjust, day, holidays, "modified")

    def test_across_the_end_of_a_month(self):
        # April 29 and 30 of 2000 are a Saturday and a Sunday, May 1 a Monday.
        saturday = number_of(2000, 4, 29)
        for day in [saturday, saturday + 1]:
            self.answers(saturday + 2, adjust, day, [], "next")
            self.answers(saturday - 1, adjust, day, [], "previous")
            self.answers(saturday - 1, adjust, day, [], "modified")
        self.answers(saturday + 2, adjust, saturday + 2, [], "modified")
        holidays = [saturday + 2, saturday - 1]
        self.answers(saturday + 3, adjust, saturday + 2, holidays, "modified")
        self.answers(saturday - 2, adjust, saturday, holidays, "modified")
        self.answers(saturday + 3, adjust, saturday, holidays, "next")

    def test_across_the_end_of_a_year(self):
        # December 31 of 2000 is a Sunday, and so are the ends of other years.
        sunday = number_of(2000, 12, 31)
        self.answers(sunday + 1, adjust, sunday, [], "next")
        self.answers(sunday - 2, adjust, sunday, [], "modified")

    def test_previous_into_the_month_before(self):
        # July 1 of 2000 is a Saturday.
        first = number_of(2000, 7, 1)
        self.answers(first + 2, adjust, first, [], "modified")
        self.answers(first - 1, adjust, first, [], "previous")
        # Holidays up to the end of the month: the previous one, although it lies in another month.
        july = list(range(first, first + 31))
        self.answers(first - 1, adjust, first + 5, july, "modified")
        self.answers(first + 31, adjust, first + 5, july, "next")

    def test_first_days(self):
        for day in [0, 1]:
            self.answers(day, adjust, day, [], "none")
            self.answers(2, adjust, day, [], "next")
            self.answers(2, adjust, day, [], "modified")
            self.raises(BadDay, adjust, day, [], "previous")
        self.answers(3, adjust, 0, [2], "next")
        self.raises(BadDay, adjust, 2, [2], "previous")
        self.answers(2, adjust, 2, [], "previous")
        self.answers(2, adjust, 3, [3], "previous")

    def test_first_month_without_working_days(self):
        january = list(range(31))
        for day in [0, 15, 30]:
            self.answers(day, adjust, day, january, "none")
            self.answers(31, adjust, day, january, "next")
            self.raises(BadDay, adjust, day, january, "previous")
            self.raises(BadDay, adjust, day, january, "modified")

    def test_last_days(self):
        holidays = [LAST_DAY, LAST_DAY - 1]
        for day in holidays:
            self.answers(day, adjust, day, holidays, "none")
            self.raises(BadDay, adjust, day, holidays, "next")
            self.answers(LAST_DAY - 2, adjust, day, holidays, "previous")
            self.answers(LAST_DAY - 2, adjust, day, holidays, "modified")
        self.answers(LAST_DAY, adjust, LAST_DAY - 1, [LAST_DAY - 1], "next")

    def test_last_hundred_days_without_working_days(self):
        holidays = list(range(LAST_DAY - 99, LAST_DAY + 1))
        found = adjusted(LAST_DAY, holidays, "previous")
        for day in [LAST_DAY, LAST_DAY - 50, LAST_DAY - 99]:
            self.answers(day, adjust, day, holidays, "none")
            self.raises(BadDay, adjust, day, holidays, "next")
            self.answers(found, adjust, day, holidays, "previous")
            self.answers(found, adjust, day, holidays, "modified")

    def test_many_days(self):
        starts = [0, 25, 55, 85, 360, 420, 1455, 20000, 36400]
        for start in starts:
            for holidays in [[], list(range(start + 99, start - 1, -1)), [start + k * k % 40 for k in range(100)],
                             [start + 2, start + 3, start + 3, start + 4, start + 2]]:
                for day in range(start, min(start + 125, LAST_DAY + 1)):
                    for how in HOWS:
                        expected = adjusted(day, holidays, how)
                        if expected is None:
                            self.raises(BadDay, adjust, day, holidays, how)
                        else:
                            self.answers(expected, adjust, day, holidays, how)

    def test_wrong(self):
        for how in HOWS + ["", "Next", "nearest", "following"]:
            for day in NO_DAYS:
                self.raises(BadDay, adjust, day, [], how)
        for how in ["", "Next", "nearest", "next ", "following"]:
            self.raises(BadValue, adjust, 3, [], how)
            self.raises(BadValue, adjust, 0, [], how)
            self.raises(BadValue, adjust, LAST_DAY, [LAST_DAY], how)

    def test_the_list_stays(self):
        for how in HOWS:
            holidays = [10, 9, 6, 9, 5]
            adjust(9, holidays, how)
            self.raises(BadDay, adjust, -1, holidays, how)
            self.assertEqual(holidays, [10, 9, 6, 9, 5])


class DueDayTest(Case):

    def due(self, expected, start, months, number):
        self.answers(number_of(*expected), due_day, number_of(*start), months, number)

    def test_number_0(self):
        for start in [0, 1, 59, 20000, LAST_DAY]:
            for months in [1, 12, 120]:
                self.answers(start, due_day, start, months, 0)

    def test_plain(self):
        self.due((2001, 2, 15), (2001, 1, 15), 1, 1)
        self.due((2002, 1, 15), (2001, 12, 15), 1, 1)
        self.due((2001, 12, 15), (2001, 11, 15), 1, 1)
        self.due((2002, 12, 1), (2001, 12, 1), 1, 12)
        self.due((2002, 3, 1), (2001, 12, 1), 3, 1)
        self.due((2011, 5, 9), (2001, 5, 9), 12, 10)
        self.due((2011, 5, 9), (2001, 5, 9), 120, 1)
        self.due((2031, 5, 9), (2001, 5, 9), 120, 3)

    def test_into_shorter_months(self):
        for in_month in [28, 29, 30, 31]:
            self.due((2001, 2, 28), (2001, 1, in_month), 1, 1)
            self.due((2004, 2, min(in_month, 29)), (2004, 1, in_month), 1, 1)
            self.due((2001, 3, in_month), (2001, 1, in_month), 1, 2)
            self.due((2001, 4, min(in_month, 30)), (2001, 1, in_month), 1, 3)
            self.due((2004, 2, min(in_month, 29)), (2003, 12, in_month), 1, 2)
            self.due((2002, 2, 28), (2001, 12, in_month), 2, 1)
        self.due((2001, 2, 28), (2000, 2, 29), 12, 1)
        self.due((2004, 2, 29), (2000, 2, 29), 12, 4)
        self.due((2010, 2, 28), (2000, 2, 29), 120, 1)
        self.due((2020, 2, 29), (2000, 2, 29), 120, 2)
        self.due((2001, 3, 28), (2001, 2, 28), 1, 1)

    def test_every_month(self):
        for start in [(2000, 1, 31), (2003, 8, 30), (2001, 2, 28), (2007, 12, 29)]:
            for months in [1, 2, 5, 12, 120]:
                for number in range(0, 1100 // months):
                    ahead = start[1] - 1 + months * number
                    year, month = start[0] + ahead // 12, ahead % 12 + 1
                    if year <= 2099:
                        in_month = min(start[2], monthrange(year, month)[1])
                        self.due((year, month, in_month), start, months, number)

    def test_the_last_day(self):
        self.due((2099, 12, 30), (2099, 11, 30), 1, 1)
        self.due((2099, 12, 31), (2099, 10, 31), 2, 1)
        self.due((2099, 12, 31), (2000, 1, 31), 1, 1199)
        self.due((2099, 12, 31), (2089, 12, 31), 120, 1)
        self.answers(LAST_DAY, due_day, LAST_DAY, 120, 0)

    def test_beyond_the_last_day(self):
        self.raises(BadDay, due_day, LAST_DAY, 1, 1)
        self.raises(BadDay, due_day, 0, 1, 1200)
        self.raises(BadDay, due_day, 0, 120, 10)
        self.raises(BadDay, due_day, 0, 120, 1200)
        self.raises(BadDay, due_day, number_of(2099, 12, 1), 1, 1)
        self.raises(BadDay, due_day, number_of(2090, 1, 1), 120, 1)

    def test_wrong(self):
        for start in NO_DAYS:
            for months in [0, 1, 121]:
                for number in [-1, 0, 1, 1201]:
                    self.raises(BadDay, due_day, start, months, number)
        for start in [0, LAST_DAY]:
            for months in [0, -1, 121, 1000]:
                for number in [-1, 0, 1, 1200, 1201]:
                    self.raises(BadValue, due_day, start, months, number)
            for months in [1, 12, 120]:
                for number in [-1, -1200, 1201, 5000]:
                    self.raises(BadValue, due_day, start, months, number)


if __name__ == "__main__":
    unittest.main()
