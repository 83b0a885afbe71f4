"""A second way of telling where the text of a family goes wrong, by descent over its lines and by replacing in them."""

import re

NAME = r"(?!(?:box|set|pay|stop|if|else|repeat|pass|rest|of|not|program)\b)[a-z][a-z0-9]{0,7}"
INTEGER = r"(?:0|-?[1-9][0-9]{0,19})"


class Wrong(Exception):
    """The line at this index cannot stand there."""


def is_sum(text):
    """Whether the text is that of an expression, of any depth."""
    # "#" stands for an integer and "@" for each other expression.
    text = re.sub(rf"(?<![a-z0-9-]){INTEGER}(?![a-z0-9-])", "#", text) if "#" not in text and "@" not in text else "?"
    text = re.sub(rf"(?<![a-z0-9#@-]){NAME}(?![a-z0-9#@-])", "@", text)
    while True:
        shorter = re.sub(r"\((?:[#@] [+-] [#@]|# \* [#@])\)", "@", text)
        if shorter == text:
            return text in ("#", "@")
        text = shorter


def is_condition(text):
    """Whether the text is that of a test."""
    while text.startswith("not "):
        text = text[4:]
    found = re.fullmatch(rf"rest {INTEGER} of {INTEGER} (.*)", text)
    if found:
        return is_sum(found[1])
    return any(is_sum(text[:at]) and is_sum(text[at + 3:]) for at in range(len(text)) if text[at:at + 3] == " < ")


def sort_of_line(words):
    """The word of the statement with this line, or None."""
    if words == "stop":
        return "stop"
    found = re.fullmatch(rf"pay (.*)|set {NAME} (.*)", words)
    if found and is_sum(found[1] or found[2] or ""):
        return "plain"
    if words.startswith("if ") and is_condition(words[3:]):
        return "if"
    return "repeat" if re.fullmatch(f"repeat {INTEGER}", words) else None


def first_wrong(text):
    """The index of the first wrong line, or None; for texts whose expressions and tests are not too deep."""
    lines = text.split("\n")
    try:
        if lines[0] != "box":
            raise Wrong(0)
        at = 1
        while at == 1 or at < len(lines):
            if at >= len(lines) or lines[at] != "  program":
                raise Wrong(at)
            at = behind_statements(lines, at + 1, 4)
    except Wrong as wrong:
        return wrong.args[0]
    return None


def behind_statements(lines, at, margin):
    """The index behind the statements, none or more, that begin there with so many spaces ahead."""
    while at < len(lines) and lines[at].startswith(" " * margin) and lines[at][margin:margin + 1] != " ":
        words = lines[at][margin:]
        word = sort_of_line(words)
        if word is None:
            return at
        at += 1
        if word in ("if", "repeat"):
            at = behind_block(lines, at, margin + 2, True)
        if word == "if" and at < len(lines) and lines[at] == " " * margin + "else":
            at = behind_block(lines, at + 1, margin + 2, False)
    return at


def behind_block(lines, at, margin, may_be_empty):
    """The index behind a block that must have a line."""
    if may_be_empty and at < len(lines) and lines[at] == " " * margin + "pass":
        return at + 1
    end = behind_statements(lines, at, margin)
    if end == at:
        raise Wrong(at)
    return end
