"""Points 19 to 23 once more, word by word: what a net is, what it answers, and which sources are alike."""

import re

from running import RULES

PORTS = {
    "const": ([], ["out"]), "add": (["a", "b"], ["out"]), "sub": (["a", "b"], ["out"]), "mul": (["a", "b"], ["out"]),
    "less": (["a", "b"], ["out"]), "equal": (["a", "b"], ["out"]), "pick": (["c", "a", "b"], ["out"]),
    "divide": (["a", "b"], ["quotient", "rest"]), "delay": (["in"], ["out"]),
}


def is_name(value):
    return type(value) is str and bool(re.fullmatch("[a-z]{1,8}", value)) and value not in (
        "block", "part", "end", "self")


def is_block(value):
    if type(value) is not str:
        return False
    found = re.fullmatch("(?:const|delay) (0|[1-9][0-9]{0,9})", value)
    return int(found[1]) < 2 ** 32 if found else value in PORTS and value not in ("const", "delay")


def is_strict_port(value):
    if type(value) is not tuple or len(value) != 2:
        return False
    return type(value[0]) is tuple and all(type(name) is str for name in value[0]) and type(value[1]) is str


def judge_net(inputs, outputs, parts, wires):
    """Tell whether four values make a net, of any number of parts."""
    for value in (inputs, outputs):
        if type(value) is not tuple or len(value) > 8 or not all(is_name(name) for name in value):
            return False
    if len(set(inputs) | set(outputs)) != len(inputs) + len(outputs) or type(parts) is not tuple:
        return False
    for part in parts:
        if type(part) is not tuple or len(part) != 2 or type(part[0]) is not tuple or not is_block(part[1]):
            return False
        if not 1 <= len(part[0]) <= 24 or not all(is_name(name) for name in part[0]):
            return False
    words = {path: text.split()[0] for path, text in parts}
    if len(words) != len(parts) or type(wires) is not tuple:
        return False
    targets = [(path, name) for path, _ in parts for name in PORTS[words[path]][0]] + [((), name) for name in outputs]
    sources = [((), name) for name in inputs] + [(path, name) for path in words for name in PORTS[words[path]][1]]
    for wire in wires:
        if type(wire) is not tuple or len(wire) != 2 or not all(is_strict_port(port) for port in wire):
            return False
        if wire[1] not in sources:
            return False
    if [target for target, _ in wires] != targets:
        return False
    return not has_cycle(words, wires)


def has_cycle(words, wires):
    """Tell whether a cycle of wires through parts passes no delay: take away parts that wait for none."""
    left = {path for path in words if words[path] != "delay"}
    while left:
        free = {path for path in left if not any(target[0] == path and source[0] in left for target, source in wires)}
        if not free:
            return True
        left -= free
    return False


def answers_of(inputs, outputs, parts, wires, history):
    """Return what a net answers, each value found backwards from where it is asked for."""
    sources, texts, known = dict(wires), dict(parts), {}

    def value_at(source, instant):
        key = (source, instant)
        if key not in known:
            path, name = source
            if path == ():
                known[key] = history[instant][inputs.index(name)]
            else:
                word, _, constant = texts[path].partition(" ")
                if word == "const" or word == "delay" and instant == 0:
                    known[key] = int(constant)
                elif word == "delay":
                    known[key] = value_at(sources[(path, "in")], instant - 1)
                else:
                    given = [value_at(sources[(path, port)], instant) for port in PORTS[word][0]]
                    known[key] = RULES[word](*given)[PORTS[word][1].index(name)]
        return known[key]

    return [tuple(value_at(sources[((), name)], instant) for name in outputs) for instant in range(len(history))]


def sources_of(net):
    return [((), name) for name in net.inputs] + [
        (path, name) for path, text in net.parts for name in PORTS[text.split()[0]][1]]


def term_of(net, source, instant, known):
    """Return the value of a source for the reading that only writes down what is computed."""
    key = (source, instant)
    if key not in known:
        sources, texts = dict(net.wires), dict(net.parts)
        path, name = source
        word, _, constant = texts[path].partition(" ") if path else ("", "", "")
        if not path:
            known[key] = ("input", name, instant)
        elif word == "const" or word == "delay" and instant == 0:
            known[key] = ("value", int(constant))
        elif word == "delay":
            known[key] = term_of(net, sources[(path, "in")], instant - 1, known)
        else:
            known[key] = (word, name, *[term_of(net, sources[(path, port)], instant, known)
                                        for port in PORTS[word][0]])
    return known[key]


def count_delays(net):
    return sum(text.startswith("delay") for _, text in net.parts)


def first_parting(net, source, other, second, known, other_known):
    """Return the least instant in which two sources have different values, or None."""
    many = count_delays(net) + (count_delays(other) if other != net else 0)
    for instant in range(many + 1):
        if term_of(net, source, instant, known) != term_of(other, second, instant, other_known):
            return instant
    return None


def walk(net, source, instant, route):
    """Return what walk_from must return."""
    sources, texts, passed, left = dict(net.wires), dict(net.parts), [], list(route)
    while True:
        path, name = source
        if path == ():
            end = ("input", name, instant)
            break
        word, _, constant = texts[path].partition(" ")
        if word == "delay" and instant > 0:
            source, instant = sources[(path, "in")], instant - 1
        elif word in ("const", "delay"):
            end = ("value", int(constant))
            break
        elif left:
            step = left.pop(0)
            if step not in PORTS[word][0]:
                return None
            passed.append((word, name))
            source = sources[(path, step)]
        else:
            end = (word, name)
            break
    return None if left else (passed, end)


def judge_closed(net, other, value):
    """Tell whether a value is a closed list, form by form."""
    if type(value) is not list:
        return False
    for pair in value:
        if type(pair) is not tuple or len(pair) != 2 or not all(is_strict_port(port) for port in pair):
            return False
        if pair[0] not in sources_of(net) or pair[1] not in sources_of(other):
            return False
    return all(has_form(net, other, pair, value) for pair in value)


def has_form(net, other, pair, listed):
    (path, name), (second_path, second_name) = pair
    if not path or not second_path:
        return not path and not second_path and name == second_name
    wired, other_wired = dict(net.wires), dict(other.wires)
    word, _, constant = dict(net.parts)[path].partition(" ")
    second_word, _, second_constant = dict(other.parts)[second_path].partition(" ")
    if word not in ("const", "delay") or second_word not in ("const", "delay"):
        return word == second_word and name == second_name and all(
            (wired[(path, port)], other_wired[(second_path, port)]) in listed for port in PORTS[word][0])
    if constant != second_constant:
        return False
    before = pair[0] if word == "const" else wired[(path, "in")]
    second_before = pair[1] if second_word == "const" else other_wired[(second_path, "in")]
    return word == second_word == "const" or (before, second_before) in listed


def random_net(chance, make, many, words, inputs=("x", "y"), outputs=("o", "p"), prefix=()):
    """Return a net whose parts, other than delays, have sources that stand before them in some order."""
    paths = [prefix + (chr(97 + k),) for k in range(many)]
    texts = [chance.choice(words) for _ in paths]
    sources = [((), name) for name in inputs]
    every = sources + [(path, name) for path, text in zip(paths, texts) for name in PORTS[text.split()[0]][1]]
    order, wired = list(range(many)), {}
    chance.shuffle(order)
    for k in order:
        word = texts[k].split()[0]
        for name in PORTS[word][0]:
            choice = every if word == "delay" else sources
            if not choice:
                return None
            wired[(paths[k], name)] = chance.choice(choice)
        if word != "delay":
            sources = sources + [(paths[k], name) for name in PORTS[word][1]]
        else:
            sources = sources + [(paths[k], "out")]
    if outputs and not every:
        return None
    wires = [((path, name), wired[(path, name)]) for path, text in zip(paths, texts)
             for name in PORTS[text.split()[0]][0]]
    wires += [(((), name), chance.choice(every)) for name in outputs]
    return make(tuple(inputs), tuple(outputs), tuple(zip(paths, texts)), tuple(wires))
