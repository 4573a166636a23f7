"""Days: numbers from 0, January 1 of 2000, to 36524, December 31 of 2099."""

from corebank.errors import BadDay, BadValue

LAST_DAY = 36524
FIRST_YEAR = 2000
LAST_YEAR = 2099
DAYS_OF_FOUR_YEARS = 1461
DAYS_OF_MONTHS = (31, 28, 31, 30, 31, 30, 31, 31, 30, 31, 30, 31)
SATURDAY = 5
HOWS = ("none", "next", "previous", "modified")
MOST_MONTHS = 120
MOST_TIMES = 1200


def is_day(number):
    """Tell whether a number is a day: from 0 to LAST_DAY."""
    return 0 <= number <= LAST_DAY


def check_day(day):
    """Raise BadDay for a number that is no day."""
    if not is_day(day):
        raise BadDay("there is no such day")


def days_of_month(year, month):
    """Tell how many days a month has, in the years from 2000 to 2099."""
    # Among these years every fourth one is a leap year: 2000 can be divided by 400.
    if month == 2 and year % 4 == 0:
        return 29
    return DAYS_OF_MONTHS[month - 1]


def first_day_of(year):
    """Tell the day that January 1 of a year is."""
    # Rounded up, because the leap year is the first of each four years.
    return (DAYS_OF_FOUR_YEARS * (year - FIRST_YEAR) + 3) // 4


def date_of(day):
    """Tell the date of a day: (year, month, day of the month)."""
    check_day(day)
    year = FIRST_YEAR + 4 * day // DAYS_OF_FOUR_YEARS
    month = 1
    left = day - first_day_of(year)
    while left >= days_of_month(year, month):
        left -= days_of_month(year, month)
        month += 1
    return (year, month, left + 1)


def is_date(year, month, in_month):
    """Tell whether there is such a date from day 0 to LAST_DAY."""
    if not FIRST_YEAR <= year <= LAST_YEAR or not 1 <= month <= 12:
        return False
    return 1 <= in_month <= days_of_month(year, month)


def day_of(year, month, in_month):
    """Tell the day of a date."""
    if not is_date(year, month, in_month):
        raise BadDay("there is no such date")
    earlier = sum([days_of_month(year, before) for before in range(1, month)])
    return first_day_of(year) + earlier + in_month - 1


def weekday(day):
    """Tell the day of the week: 0 for Monday to 6 for Sunday."""
    check_day(day)
    return (day + SATURDAY) % 7


def is_working(day, holidays):
    """Tell whether a day is from Monday to Friday and no holiday."""
    return weekday(day) < SATURDAY and day not in holidays


def find_working(day, holidays, step):
    """The first working day from `day` on, going on by `step`; None if there is none."""
    at = day
    while is_day(at):
        if is_working(at, holidays):
            return at
        at += step
    return None


def find_modified(day, holidays):
    """The next working day, or the previous one if the next lies in another month."""
    later = find_working(day, holidays, 1)
    if later is not None and date_of(later)[:2] == date_of(day)[:2]:
        return later
    return find_working(day, holidays, -1)


def find_adjusted(day, holidays, how):
    """The day that adjust looks for; None if there is none."""
    if how == "none":
        return day
    if how == "next":
        return find_working(day, holidays, 1)
    if how == "previous":
        return find_working(day, holidays, -1)
    return find_modified(day, holidays)


def adjust(day, holidays, how):
    """Move a day to a working day: "none", "next", "previous" or "modified"."""
    check_day(day)
    if how not in HOWS:
        raise BadValue("there is no such way to adjust a day")
    found = find_adjusted(day, holidays, how)
    if found is None:
        raise BadDay("there is no such working day")
    return found


def due_day(start, months, number):
    """The day that is `number` times `months` months after the day `start`."""
    year, month, in_month = date_of(start)
    if not 1 <= months <= MOST_MONTHS:
        raise BadValue("the months are not from 1 to 120")
    if not 0 <= number <= MOST_TIMES:
        raise BadValue("the number is not from 0 to 1200")
    years, month_from_0 = divmod(month - 1 + months * number, 12)
    last = days_of_month(year + years, month_from_0 + 1)
    # Beyond the last day there is no date for day_of to find, so that it raises BadDay.
    return day_of(year + years, month_from_0 + 1, min(in_month, last))
