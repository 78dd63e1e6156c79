"""What is asked of things that may be anything: integers, deeds and rows."""


def is_integer(thing):
    """Whether the thing is an integer, which flags are not."""
    return isinstance(thing, int) and not isinstance(thing, bool)


def is_integer_within(thing, least, most):
    """Whether the thing is an integer from least to most."""
    return is_integer(thing) and least <= thing <= most


def is_small_word(thing):
    """Whether the thing is a string of one letter a to z or more."""
    return isinstance(thing, str) and thing.isascii() and thing.isalpha() and thing.islower()


def is_deeds(thing):
    """Whether the thing may be passed as deeds."""
    if not is_small_word(thing) or len(thing) > 4:
        return False
    return all([one < two for one, two in zip(thing, thing[1:])])


def is_row(thing):
    """Whether the thing is a row, of whatever letters."""
    return isinstance(thing, str) and (thing == "" or (thing.isascii() and thing.isalpha()))


def is_row_over(deeds, thing):
    """Whether the thing is a row over the deeds."""
    return is_row(thing) and all([letter in deeds for letter in thing.lower()])


def are_rows_over(deeds, thing, most, longest):
    """Whether the thing is a list or tuple of at most so many rows over the deeds, none longer."""
    if not isinstance(thing, (list, tuple)) or len(thing) > most:
        return False
    return all([is_row_over(deeds, row) and len(row) <= longest for row in thing])


def is_pair_below(first, second, thing):
    """Whether the thing is a pair of integers from 0 on, each below its bound."""
    if not isinstance(thing, tuple) or len(thing) != 2:
        return False
    return is_integer_within(thing[0], 0, first - 1) and is_integer_within(thing[1], 0, second - 1)


def are_pairs_below(first, second, thing):
    """Whether the thing is a list of different pairs of integers from 0 on, each below its bound."""
    if not isinstance(thing, list) or not all([is_pair_below(first, second, pair) for pair in thing]):
        return False
    return len({pair for pair in thing}) == len(thing)


def is_row_word(thing):
    """Whether a word stands for a row: letters, or "-" for the empty row."""
    return thing == "-" or (thing != "" and is_row(thing))


def is_decimal(word):
    """Whether a word is a decimal number from 0 on, without needless zeros, of at most nine digits."""
    return word.isascii() and word.isdigit() and len(word) <= 9 and (word == "0" or word[0] != "0")
