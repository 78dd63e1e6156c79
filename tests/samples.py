"""What several tests need: odd things, programs by chance, and slow ways to reckon the same."""

import random

from runsback.errors import NoRow
from runsback.programs import Program
from runsback.effects import lot_of
from runsback.webs import web_of
from runsback.worlds import World

LETTERS = "aAbBcCdDeEfFgGhHiIjJkKlLmMnNoOpPqQrRsStTuUvVwWxXyYzZ"


def nested(make, depth):
    """A thing in which things of one kind are nested so deep."""
    thing = make(None)
    for _ in range(depth - 1):
        thing = make(thing)
    return thing


def odd_things():
    """Objects of all kinds that may stand where an error is named, none a string or an integer."""
    return [
        None, True, False, b"", b"a", bytearray(b"a"), memoryview(b"a"), range(3), slice(1, 2),
        [], [None], [[]], ["a", 1], (), (None,), ((),), ((), ()), (1, 2), (1, 2, 3), ("do",), ("do", "a"), ("do", "a", "a"),
        {}, {"a": 1}, {1: 2}, {None: ()}, {("a",): [1]}, {"a": {"b": {}}},
        object(), Ellipsis, NotImplemented, int, str, type, len, odd_things, lambda: 1, "a".upper,
        iter([1]), (x for x in "ab"), zip("ab", "cd"), enumerate("ab"), reversed([1]), {}.keys(), {}.items(),
        ValueError("a"), NoRow(), NoRow, Program, Program("a", {}, ()), lot_of("a", ["a"]), World("a", {"a": (0,)}), web_of("a", ["a"]),
        nested(lambda thing: (thing,), 40), nested(lambda thing: [thing], 40), nested(lambda thing: {"a": thing}, 40),
        nested(lambda thing: (("loop", thing),), 20), nested(lambda thing: ("do", thing), 40),
        nested(lambda thing: ((thing, 1),), 20),
        [0] * 9999, ("a",) * 9999, [[]] * 9999, {number: () for number in range(4999)},
    ]


def odd_integers():
    return [0, 1, -1, 5, 10 ** 59, -(10 ** 59)]


def odd_strings():
    return ["?", "a b", "a1", " ", "a\n", "-", "do it", "'", "\u00e4", "a\u00e4", "A\u00c4"]


def slow_net(row):
    """The net of a row by dropping pairs wherever they stand."""
    pairs = [letter + letter.swapcase() for letter in LETTERS]
    before = None
    while before != row:
        before = row
        for pair in pairs:
            row = row.replace(pair, "")
    return row


def flipped(row):
    return "".join([letter.swapcase() for letter in reversed(row)])


def nets_up_to(deeds, length):
    """All nets over the deeds with at most so many letters, earlier ones first."""
    letters = [letter for letter in LETTERS if letter.lower() in deeds]
    found = [""]
    last = [""]
    for _ in range(length):
        last = [one + letter for one in last for letter in letters if one[-1:] != letter.swapcase()]
        found.extend(last)
    return found


def rows_of_block(parts, block, rounds):
    """The set of the rows of the runs of a block with at most so many rounds of each loop."""
    rows = {""}
    for statement in block:
        ends = rows_of_statement(parts, statement, rounds)
        rows = {row + end for row in rows for end in ends}
    return rows


def rows_of_statement(parts, statement, rounds):
    word, inner = statement
    if word == "do":
        return {inner}
    if word in ("either", "other"):
        return {row for block in inner for row in rows_of_block(parts, block, rounds)}
    if word == "part":
        return rows_of_block(parts, parts[inner], rounds)
    rows = rows_of_block(parts, inner, rounds)
    if word == "undo":
        return {flipped(row) for row in rows}
    found = {""}
    for _ in range(rounds):
        found = found | {one + row for one in found for row in rows}
    return found


def slow_detours(many, arrows):
    """The set of all detours, by going through all pairs until nothing is new."""
    pairs = {(place, place) for place in range(many)} | {(p, q) for p, x, q in arrows if x == ""}
    while True:
        found = set(pairs)
        found |= {(p, r) for p, q in pairs for s, r in pairs if q == s}
        found |= {(p, q) for p, x, s in arrows if x for t, y, q in arrows if y == x.swapcase() and (s, t) in pairs}
        if found == pairs:
            return pairs
        pairs = found


def slow_has(many, arrows, pairs, one):
    """Whether the net is that of a row along arrows from 0 to 1, the detours being told."""
    lot = {q for p, q in pairs if p == 0}
    for letter in one:
        behind = {r for p, x, r in arrows if x == letter and p in lot}
        lot = {q for r, q in pairs if r in behind}
    return 1 in lot


def chance_row(chance, deeds, most):
    letters = [letter for letter in LETTERS if letter.lower() in deeds]
    return "".join([chance.choice(letters) for _ in range(chance.randint(0, most))])


def chance_block(chance, deeds, names, depth):
    """A block by chance, that stands so deep."""
    block = []
    for _ in range(chance.choice([0, 1, 1, 2, 2, 3])):
        words = ["do", "do", "do"]
        if depth < 4:
            words += ["either", "other", "loop", "loop", "undo"]
        if names:
            words += ["part"]
        word = chance.choice(words)
        if word == "do":
            inner = chance_row(chance, deeds, 3)
        elif word == "part":
            inner = chance.choice(names)
        elif word in ("either", "other"):
            inner = tuple([chance_block(chance, deeds, names, depth + 1) for _ in range(chance.randint(1, 3))])
        else:
            inner = chance_block(chance, deeds, names, depth + 1)
        block.append((word, inner))
    return tuple(block)


def chance_programs(seed, many, deeds="ab"):
    """So many right programs by chance, always the same ones for a seed."""
    chance = random.Random(seed)
    programs = []
    while len(programs) < many:
        parts = {"one": chance_block(chance, deeds, [], 1)}
        parts["two"] = chance_block(chance, deeds, ["one"], 1)
        try:
            programs.append(Program(deeds, parts, chance_block(chance, deeds, ["one", "two"], 1)))
        except ValueError:
            continue
    return programs


def chance_plan(chance, parts, block):
    """A plan of a block by chance."""
    plan = []
    for word, inner in block:
        if word == "do":
            plan.append(())
        elif word in ("either", "other"):
            index = chance.randrange(len(inner))
            plan.append((index, chance_plan(chance, parts, inner[index])))
        elif word == "loop":
            many = chance.choice([0, 1, 1, 2])
            plan.append(tuple([(chance_plan(chance, parts, inner), chance.randint(1, 3)) for _ in range(many)]))
        else:
            plan.append(chance_plan(chance, parts, parts[inner] if word == "part" else inner))
    return tuple(plan)


def slow_row(parts, block, plan):
    """The row that the run by the plan does, letter by letter as it is told."""
    row = ""
    for (word, inner), item in zip(block, plan):
        if word == "do":
            row += inner
        elif word in ("either", "other"):
            row += slow_row(parts, inner[item[0]], item[1])
        elif word == "loop":
            for round_plan, times in item:
                for _ in range(times):
                    row += slow_row(parts, inner, round_plan)
        elif word == "part":
            row += slow_row(parts, parts[inner], item)
        else:
            row += flipped(slow_row(parts, inner, item))
    return row


def chain_and_choices(letters):
    """A program with as many states as letters and 256: so much later some letter was a."""
    choice = ("either", ((("do", "a"),), (("do", "b"),)))
    rows = [("do", "c" * min(12, letters - done)) for done in range(0, letters, 12)]
    parts = {"rows": tuple(rows), "choices": (choice,) * 7}
    return Program("abc", parts, (("part", "rows"), ("loop", (choice,)), ("do", "a"), ("part", "choices")))


def chance_prices(chance, deeds, most=99):
    """Prices by chance for the letters over the deeds."""
    return {letter: chance.randint(1, most) for letter in LETTERS if letter.lower() in deeds}


def chance_world(chance, deeds, size):
    """A world by chance with so many standings."""
    return World(deeds, {deed: tuple(chance.sample(range(size), size)) for deed in deeds})


def slow_led(world, standing, row):
    """The standing to which a row leads, the undoings being looked for."""
    for letter in row:
        move = world.moves[letter.lower()]
        standing = move[standing] if letter.islower() else move.index(standing)
    return standing


def slow_web(deeds, nets):
    """The set of the ways of the web that keeps what the nets make, folded pair by pair, with any places but 0."""
    ways = set()
    for number, one in enumerate(nets):
        stops = [0] + [(number, at) for at in range(1, len(one))] + [0]
        for at, letter in enumerate(one):
            ends = (stops[at], stops[at + 1]) if letter.islower() else (stops[at + 1], stops[at])
            ways.add((ends[0], letter.lower(), ends[1]))
    while True:
        pairs = [(w, v) for w in ways for v in ways if w != v and w[1] == v[1]]
        pairs = [(w[2], v[2]) for w, v in pairs if w[0] == v[0]] + [(w[0], v[0]) for w, v in pairs if w[2] == v[2]]
        if not pairs:
            return ways
        gone, kept = pairs[0] if pairs[0][1] == 0 else pairs[0][::-1]
        ways = {tuple([kept if end == gone else end for end in way]) for way in ways}


def slow_keeps(ways, one):
    """Whether the letters of a net lead from 0 to 0 along ways."""
    place = 0
    for letter in one:
        goals = [q if letter.islower() else p for p, d, q in ways if d == letter.lower() and (p if letter.islower() else q) == place]
        if not goals:
            return False
        place = goals[0]
    return place == 0


def chance_rows(chance, deeds, many, longest):
    return [chance_row(chance, deeds, longest) for _ in range(many)]


def chance_product(chance, rows, many):
    """A row that is made by at most so many of the rows and of undone ones."""
    found = ""
    for _ in range(chance.randint(0, many) if rows else 0):
        row = chance.choice(rows)
        found += chance.choice([row, flipped(row)])
    return found
