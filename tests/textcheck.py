"""A second reader of text forms, made of patterns, to which the first one is compared."""

import re

RESERVED = ("block", "part", "end", "self")
WORDS = ("const", "add", "sub", "mul", "less", "equal", "pick", "divide", "delay")
NAME = "([a-z]{1,8})"


def is_name(text):
    return bool(re.fullmatch("[a-z]{1,8}", text)) and text not in RESERVED


def is_block(text):
    if text in WORDS:
        return text not in ("const", "delay")
    value = re.fullmatch("(?:const|delay) (0|[1-9][0-9]{0,9})", text)
    return int(value[1]) < 2 ** 32 if value else is_name(text)


def read_head(row):
    found = re.fullmatch(r"block ([a-z]+)\(((?:[a-z]+(?: [a-z]+)*)?);((?: [a-z]+)*)\)", row)
    if not found or not is_name(found[1]) or found[1] in WORDS:
        return None
    inputs, outputs = found[2].split(), found[3].split()
    names = inputs + outputs
    right = len(inputs) <= 8 and len(outputs) <= 8 and len(set(names)) == len(names)
    return (inputs, outputs) if right and all(map(is_name, names)) else None


def is_port(text, own, parts):
    found = re.fullmatch(r"([a-z]+)\.([a-z]+)", text)
    return found[1] in parts and is_name(found[2]) if found else text in own


def wrong_row(text):
    """Return the row of InvalidText for a text, or None for a text form."""
    rows = text.split("\n")
    head = read_head(rows[0])
    if head is None:
        return 0
    inputs, outputs = head
    parts, targets = [], []
    for number, row in enumerate(rows[1:], 1):
        if row == "end":
            return number + 1 if len(rows) > number + 1 else None
        part = re.fullmatch(r"  part ([a-z]+) = ([a-z0-9 ]+)", row)
        wire = re.fullmatch(r"  ([a-z.]+) <- ([a-z.]+)", row)
        if part and is_name(part[1]) and is_block(part[2]) and part[1] not in parts:
            if targets or len(parts) == 16:
                return number
            parts.append(part[1])
        elif wire and is_port(wire[1], outputs, parts) and is_port(wire[2], inputs, parts):
            if wire[1] in targets:
                return number
            targets.append(wire[1])
        else:
            return number
    return len(rows)
