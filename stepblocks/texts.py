"""Names, values and primitives and their texts, and the rows of diagrams (points 3 to 7)."""

LETTERS = "abcdefghijklmnopqrstuvwxyz"
DIGITS = "0123456789"
MOST_LETTERS = 8
MOST_DIGITS = 10
MODULUS = 4294967296
RESERVED_WORDS = ("block", "part", "end", "self")

# The inputs and the outputs of each primitive, by its first word.
PRIMITIVE_PORTS = {
    "const": ((), ("out",)),
    "add": (("a", "b"), ("out",)),
    "sub": (("a", "b"), ("out",)),
    "mul": (("a", "b"), ("out",)),
    "less": (("a", "b"), ("out",)),
    "equal": (("a", "b"), ("out",)),
    "pick": (("c", "a", "b"), ("out",)),
    "divide": (("a", "b"), ("quotient", "rest")),
    "delay": (("in",), ("out",)),
}
WORDS_WITH_VALUE = ("const", "delay")


def is_name(value):
    """Tell whether a value, which may be any value, is a name."""
    if not isinstance(value, str) or not 1 <= len(value) <= MOST_LETTERS:
        return False
    return value not in RESERVED_WORDS and all([letter in LETTERS for letter in value])


def are_port_names(inputs, outputs, most):
    """Tell whether two values, which may be any values, are tuples of names, at most so many each, all different."""
    for value in (inputs, outputs):
        if not isinstance(value, tuple) or len(value) > most or not all([is_name(name) for name in value]):
            return False
    return len(set(inputs + outputs)) == len(inputs) + len(outputs)


def is_integer(value):
    """Tell whether a value, which may be any value, is an integer."""
    return isinstance(value, int) and not isinstance(value, bool)


def is_value(value):
    """Tell whether a value, which may be any value, is one that ports can have."""
    return is_integer(value) and 0 <= value < MODULUS


def is_diagram_name(text):
    """Tell whether a text is a name that a diagram may have."""
    return is_name(text) and text not in PRIMITIVE_PORTS


def read_value(text):
    """Return the value that is written so, or None if none is."""
    # The length is checked first because Python refuses to read a number of many thousand digits.
    if not 1 <= len(text) <= MOST_DIGITS or not all([sign in DIGITS for sign in text]):
        return None
    if text[0] == "0" and text != "0":
        return None
    value = int(text)
    return value if value < MODULUS else None


def read_primitive(text):
    """Return the first word and the constant (or None) of a primitive, or None if it is none."""
    word, space, rest = text.partition(" ")
    if word not in PRIMITIVE_PORTS:
        return None
    if word not in WORDS_WITH_VALUE:
        return None if space else (word, None)
    constant = read_value(rest)
    return None if constant is None else (word, constant)


def is_primitive(text):
    """Tell whether a text is that of a primitive."""
    return read_primitive(text) is not None


def head_row(name, inputs, outputs):
    """Return the first row of a diagram."""
    before = " ".join(inputs)
    behind = "".join([f" {output}" for output in outputs])
    return f"block {name}({before};{behind})"


def port_text(port):
    """Return the text of a port in a wire."""
    part, name = port
    return f"{part}.{name}" if part else name


def diagram_rows(name, inputs, outputs, parts, wires):
    """Return the list of the rows of a diagram."""
    part_rows = [f"  part {part} = {block}" for part, block in parts]
    wire_rows = [f"  {port_text(target)} <- {port_text(source)}" for target, source in wires]
    return [head_row(name, inputs, outputs), *part_rows, *wire_rows, "end"]


def read_head(row):
    """Return the name, the inputs and the outputs that a head has, or None if it is not written as one."""
    name, _, ports = row.removeprefix("block ").partition("(")
    before, _, behind = ports.removesuffix(")").partition(";")
    inputs, outputs = tuple(before.split()), tuple(behind.split())
    # Writing the head again tells whether it has exactly the required signs and spaces.
    if head_row(name, inputs, outputs) != row:
        return None
    return name, inputs, outputs


def order_targets(parts, outputs, targets):
    """Return the targets (keys of a dict) in the order of the text form."""
    names = {part: [] for part, _ in parts}
    for part, name in targets:
        if part:
            names[part].append(name)
    ordered = [(part, name) for part in names for name in sorted(names[part])]
    return ordered + [("", output) for output in outputs if ("", output) in targets]
