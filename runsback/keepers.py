"""Keepers of reports on an unknown world."""

from runsback.errors import Clash, NoDeeds, NoFlag, NoRow, NothingDone, TooMany
from runsback.homes import home
from runsback.kinds import is_deeds, is_row_over
from runsback.tables import product
from runsback.webs import keeps, web_of

MOST_LETTERS = 12
MOST_REPORTS = 5


class Keeper:
    """Reports on which rows lead the start of a world to itself and which do not."""

    def __init__(self, deeds):
        if not is_deeds(deeds):
            raise NoDeeds()
        self._deeds = deeds
        self._reports = []

    def tell(self, row, at_home):
        """Keep the report that the row leads the start to itself, or that it does not."""
        self._demand_row(row)
        if not isinstance(at_home, bool):
            raise NoFlag()
        if len(self._told(at_home)) >= MOST_REPORTS:
            raise TooMany(MOST_REPORTS)
        if self.answer(row) == ("away" if at_home else "home"):
            raise Clash()
        self._reports.append((row, at_home))

    def back(self):
        """Take back the last report."""
        if not self._reports:
            raise NothingDone()
        self._reports.pop()

    def reports(self):
        """The list of the reports, as pairs of row and flag."""
        return list(self._reports)

    def answer(self, row):
        """Whether the row is "home", "away" or "open"."""
        self._demand_row(row)
        homes = self._told(True)
        if keeps(web_of(self._deeds, homes), row):
            return "home"
        return "open" if self._shown_away(homes + [row]) is None else "away"

    def paper(self, row):
        """What shows that the row is home, away or open."""
        told = self.answer(row)
        homes, aways = self._told(True), self._told(False)
        if told == "home":
            return ("home", product(self._deeds, homes, row))
        if told == "open":
            return ("open", home(self._deeds, homes + [row], aways), home(self._deeds, homes, aways + [row]))
        number = self._shown_away(homes + [row])
        return ("away", number, product(self._deeds, homes + [row], self._reports[number][0]))

    def _demand_row(self, thing):
        """Raise NoRow for what is no row over the deeds, or too long a one."""
        if not is_row_over(self._deeds, thing) or len(thing) > MOST_LETTERS:
            raise NoRow()

    def _told(self, at_home):
        """The rows told with this flag, in order."""
        return [row for row, flag in self._reports if flag == at_home]

    def _shown_away(self, rows):
        """The number of the first report of a row told away that the rows make, or None."""
        web = web_of(self._deeds, rows)
        for number, (row, flag) in enumerate(self._reports):
            if not flag and keeps(web, row):
                return number
        return None
