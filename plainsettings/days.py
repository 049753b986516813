"""Days of the Gregorian calendar."""

MONTH_LENGTHS = (31, 28, 31, 30, 31, 30, 31, 31, 30, 31, 30, 31)

# From 0000-01-01 to 1970-01-01.
DAYS_TO_1970 = 719528


def day_number(text):
    """How many days after 1970-01-01 the day is that text writes, or None where it writes none."""
    if not has_form_of_day(text):
        return None
    year = int(text[0:4])
    month = int(text[5:7])
    day = int(text[8:10])
    if month < 1 or month > 12 or day < 1 or day > month_length(year, month):
        return None
    before = sum([month_length(year, earlier) for earlier in range(1, month)])
    return days_before_year(year) + before + day - 1 - DAYS_TO_1970


def has_form_of_day(text):
    if len(text) != 10 or text[4] != "-" or text[7] != "-":
        return False
    return (text[0:4] + text[5:7] + text[8:10]).isdigit()


def is_leap_year(year):
    return year % 4 == 0 and (year % 100 != 0 or year % 400 == 0)


def month_length(year, month):
    if month == 2 and is_leap_year(year):
        return 29
    return MONTH_LENGTHS[month - 1]


def days_before_year(year):
    """How many days the years 0 to year - 1 have."""
    # Rounded up, since year 0 is itself one of each of these.
    leap_years = (year + 3) // 4 - (year + 99) // 100 + (year + 399) // 400
    return 365 * year + leap_years
