"""Folding: places of a graph are laid on one another until no letter leads from one place to two.

Each place stands for some net, place 0 for the empty one. Each arrow has a WORD: a tuple of integers that
stand for rows, as in the lines of a table, which together make the net of its first place, its letter and
the undone net of its last place. If one place is laid on another one, a word is kept that makes the net of
the one and the undone net of the other one. Whoever asks for places alone leaves all words empty.
"""


class Folding:
    """A graph of so many places that is being folded, with words for so many rows.

    A long word is put down as one of the lines, and the integer for this line stands for it then.
    """

    def __init__(self, many, rows):
        self.rows = rows
        self.lines = []
        self.laid_on = list(range(many))
        self.words = [()] * many
        self.weights = [1] * many
        # Place 0 must stand for the empty net, so it is never laid on another one.
        self.weights[0] = many + 1
        self.led = [{} for _ in range(many)]
        self.waiting = []

    def top(self, place):
        """The pair of the place that this one is laid on in the end and the word for this."""
        word = ()
        at = place
        while self.laid_on[at] != at:
            word += self.words[at]
            at = self.laid_on[at]
        return (at, word)

    def full_word(self, arrow):
        """The word of an arrow, told as (place, goal, word), between the tops of its places."""
        place, goal, word = arrow
        return undone_word(self.top(place)[1]) + word + self.top(goal)[1]

    def add_arrow(self, place, letter, goal, word):
        """Take up an arrow, also one without a letter, and fold what can be folded."""
        if letter == "":
            self.lay_together(place, goal, undone_word(self.full_word((place, goal, word))))
        else:
            self.waiting.append((place, letter, goal, word))
        while self.waiting:
            start, told, last, inner = self.waiting.pop()
            self.enter(start, told, last, inner)
            self.enter(last, told.swapcase(), start, undone_word(inner))

    def enter(self, place, letter, goal, word):
        """Enter an arrow, or lay its goal together with the one to which the letter leads already."""
        led = self.led[self.top(place)[0]]
        if letter not in led:
            led[letter] = (place, goal, word)
            return
        known = led[letter]
        between = undone_word(self.full_word((place, goal, word))) + self.full_word(known)
        self.lay_together(known[1], goal, between)

    def lay_together(self, first, second, word):
        """Lay the tops of two places on one another; the word is that for the second top on the first one."""
        upper = self.top(first)[0]
        lower = self.top(second)[0]
        if upper == lower:
            return
        laid = word
        if self.weights[upper] < self.weights[lower]:
            upper, lower = lower, upper
            laid = undone_word(word)
        self.laid_on[lower] = upper
        self.words[lower] = self.short_word(laid)
        self.weights[upper] += self.weights[lower]
        for letter in self.led[lower]:
            place, goal, inner = self.led[lower][letter]
            self.waiting.append((place, letter, goal, inner))
        self.led[lower] = {}

    def short_word(self, word):
        """The word, or the integer for a line with it if it is long."""
        if len(word) < 2:
            return word
        self.lines.append(word)
        return (self.rows + len(self.lines),)

    def leads(self):
        """For each place a dict from letters to places; it is empty for those that are laid on others."""
        return [{letter: self.top(led[letter][1])[0] for letter in led} for led in self.led]


def undone_word(word):
    """The word for what is undone."""
    return tuple([-number for number in word[::-1]])
