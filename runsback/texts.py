"""Texts of programs and worlds."""


def program_text(program):
    """The text of a program."""
    lines = ["deeds " + program.deeds]
    parts = program.parts
    for name in sorted(list(parts)):
        lines.append("name " + name)
        lines.extend(block_lines(parts[name]))
        lines.append("end")
    lines.append("body")
    lines.extend(block_lines(program.body))
    lines.append("end")
    return text_of(lines)


def world_text(world):
    """The text of a world."""
    moves = world.moves
    lines = ["world " + world.deeds]
    for deed in world.deeds:
        lines.append(" ".join([deed] + [str(standing) for standing in moves[deed]]))
    return text_of(lines)


def row_word(row):
    """The word for a row."""
    return "-" if row == "" else row


def block_lines(block):
    """The lines of a block."""
    lines = []
    for statement in block:
        lines.extend(statement_lines(statement))
    return lines


def statement_lines(statement):
    """The lines of a statement."""
    word, inner = statement
    if word == "do":
        return ["do " + row_word(inner)]
    if word == "part":
        return ["part " + inner]
    blocks = inner if word in ("either", "other") else (inner,)
    lines = []
    for at, block in enumerate(blocks):
        lines.append(word if at == 0 else "or")
        lines.extend(block_lines(block))
    return lines + ["end"]


def text_of(lines):
    """The lines, each closed by a line feed."""
    return "".join([line + "\n" for line in lines])
