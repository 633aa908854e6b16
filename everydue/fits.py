"""The days that fit the lists of a rule (point 21)."""

from everydue.calendars import first_day, month_days, period_of, places_of_week, weekday_of, weeks_of


class Fits:
    """The lists of a rule, in a calendar."""

    def __init__(self, calendar, lists):
        self._calendar = calendar
        self.week = calendar[4]
        self.lists = {name: {member: True for member in members} for name, members in lists}

    def days_between(self, begin, end):
        """Returns an ascending list of the days from begin to end - 1 that fit all lists."""
        if begin >= end:
            return []
        year = period_of(self._calendar, "year", begin)
        first = first_day(self._calendar, "year", year)
        days = []
        while first < end:
            lengths = month_days(self._calendar, year)
            days.extend(self._days_of_year(year, first, lengths))
            first += sum(lengths)
            year += 1
        return [day for day in days if begin <= day < end]

    def _days_of_year(self, year, begin, lengths):
        """Returns an ascending list of the days that fit all lists of a year with such a first day and such months."""
        days = []
        first = begin
        for month, length in enumerate(lengths):
            if self._fits_place("months", month, len(lengths)):
                days.extend(self._days_of_month(first, length))
            first += length
        return self._fitting_year(days, year, begin, first - begin)

    def _fits_place(self, name, index, many):
        """Returns whether what has an index, from 0, among so many fits a list of places, if there is such a list."""
        if name not in self.lists:
            return True
        return index + 1 in self.lists[name] or index - many in self.lists[name]

    def _days_of_month(self, first, length):
        """Returns an ascending list of the days of a month that fit the lists that speak of months and weekdays."""
        days = list(range(first, first + length))
        if "days" in self.lists:
            days = [day for day in days if self._fits_place("days", day - first, length)]
        if "weekdays" in self.lists:
            allowed = self.lists["weekdays"]
            days = [day for day in days if weekday_of(self._calendar, day) in allowed]
        if "month weekdays" in self.lists:
            days = [day for day in days if self._fits_weekday("month weekdays", day, first, length)]
        return days

    def _fits_weekday(self, name, day, first, length):
        """Returns whether a day fits a list of weekdays with places among so many days from a first one on."""
        allowed = self.lists[name]
        weekday = weekday_of(self._calendar, day)
        ahead = (day - first) // self.week
        behind = (first + length - 1 - day) // self.week
        return (weekday, ahead + 1) in allowed or (weekday, -behind - 1) in allowed

    def _fitting_year(self, days, year, begin, length):
        """Returns those of some days of a year that fit the lists that speak of years."""
        if "year days" in self.lists:
            days = [day for day in days if self._fits_place("year days", day - begin, length)]
        if "year weekdays" in self.lists:
            days = [day for day in days if self._fits_weekday("year weekdays", day, begin, length)]
        if "weeks" in self.lists and days:
            first, last = weeks_of(self._calendar, year)
            days = [day for day in days if self._fits_week(day, year, first, last)]
        return days

    def _fits_week(self, day, year, first, last):
        """Returns whether a day of a year fits the list of weeks; from first to last go those of this year."""
        week = period_of(self._calendar, "week", day)
        if first <= week <= last:
            return self._fits_place("weeks", week - first, last - first + 1)
        # The week belongs to another year.
        _, ahead, behind = places_of_week(self._calendar, week, year)
        return ahead in self.lists["weeks"] or behind in self.lists["weeks"]
