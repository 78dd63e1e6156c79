"""Stands: led through a world, letter by letter, and back again."""

from runsback.covers import reached
from runsback.demands import demand_same_deeds
from runsback.errors import NoLetter, NoNumber
from runsback.kinds import is_integer_within, is_row_over
from runsback.moving import letter_moves
from runsback.plans import row_of
from runsback.worlds import demand_standing


class Stand:
    """A standing of a world, and the letters that were gone to it."""

    def __init__(self, world, standing):
        demand_standing(world, standing)
        self.at = standing
        self._world = world
        self._moves = letter_moves(world)
        self._letters = []

    def row(self):
        """The row of the letters that were gone."""
        return "".join(self._letters)

    def go(self, letter):
        """Go a letter."""
        if not is_row_over(self._world.deeds, letter) or len(letter) != 1:
            raise NoLetter()
        self.at = self._moves[letter][self.at]
        self._letters.append(letter)

    def run(self, program, plan):
        """Go all letters of the row of a run."""
        demand_same_deeds(self._world, program)
        for letter in row_of(program, plan):
            self.go(letter)

    def back(self, many):
        """Go back behind the last letters, so many of them."""
        if not is_integer_within(many, 1, len(self._letters)):
            raise NoNumber()
        for _ in range(many):
            self.at = self._moves[self._letters.pop().swapcase()][self.at]

    def reach(self, program):
        """The ascending list of the standings to which the program comes from here."""
        return reached(self._world, program, self.at)

    def copy(self):
        """Another stand, that goes on apart."""
        other = Stand(self._world, self.at)
        other._letters = list(self._letters)
        return other

    def trying(self, action):
        """What action returns for this stand, after which all is put back to what it was."""
        at = self.at
        letters = list(self._letters)
        try:
            return action(self)
        finally:
            self.at = at
            self._letters = letters
