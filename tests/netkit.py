"""Nets that several tests put together by hand, or by chance."""

import unittest

from netcheck import PORTS
from stepblocks.errors import BlockError
from stepblocks.nets import Net


class RaisedCase(unittest.TestCase):
    def raised(self, kind, call, *args, **named):
        """Return the attributes of the error of this kind that a call raises."""
        with self.assertRaises(kind, msg=args) as caught:
            call(*args, **named)
        self.assertIsInstance(caught.exception, BlockError)
        return vars(caught.exception)


def out(name, port="out"):
    return ((name,), port)


def x(name="x"):
    return ((), name)


def net_of(inputs, parts, wires, outputs=None):
    """Return a net: parts are a dict from names to texts, wires one from PART.PORT to sources, outputs to sources."""
    listed = [((tuple([target.split(".")[0]]), target.split(".")[1]), source) for target, source in wires.items()]
    listed += [(((), name), source) for name, source in (outputs or {}).items()]
    return Net.wide(tuple(inputs), tuple(outputs or {}), tuple(((name,), text) for name, text in parts.items()),
                    tuple(listed))


def long_name(k):
    return "d" + "".join("abcdefghij"[int(digit)] for digit in str(k).zfill(5))


def delay_line(many, source, text="delay 1", first=0):
    """Return the parts and wires of so many delays one behind the other, and the last source."""
    parts, wires = {}, {}
    for k in range(first, first + many):
        parts[long_name(k)] = text
        wires[f"{long_name(k)}.in"] = source
        source = out(long_name(k))
    return parts, wires, source


def pipeline(texts, delays, inputs="x"):
    """Return a net with parts p0, p1 .. one behind the other, and so many delays ahead of each and of the output o.

    The first inputs of a part are wired to the line, the other ones to the first input of the net.
    """
    parts, wires, source, made = {}, {}, x(inputs[0]), 0
    for k, many in enumerate(delays):
        more, links, source = delay_line(many, source, f"delay {k}", made)
        parts.update(more)
        wires.update(links)
        made += many
        if k < len(texts):
            name = "p" + "abcdefghijklmnopqrstuvwxyz"[k // 26] + "abcdefghijklmnopqrstuvwxyz"[k % 26]
            ports = PORTS[texts[k].split()[0]]
            parts[name] = texts[k]
            wires.update({f"{name}.{port}": source for port in ports[0]})
            source = out(name, ports[1][-1])
    return net_of(inputs, parts, wires, {"o": source})


def random_line_net(chance, parts, delays, words, heads=("x", "y"), back=0.3):
    """Return a net without a delay ring: parts that are no delays, and lines of delays that lead on and back."""
    names = [f"p{chr(97 + k // 26)}{chr(97 + k % 26)}" for k in range(parts)]
    texts = dict(zip(names, [chance.choice(words) for _ in names]))
    held = [f"q{chr(97 + k // 26)}{chr(97 + k % 26)}" for k in range(delays)]

    def ports(name):
        return [out(name, port) for port in PORTS[texts[name].split()[0]][1]]

    wires, before = {}, [x(name) for name in heads]
    every = before + [port for name in names for port in ports(name)]
    # Each delay is fed by one that stands before it, or by something else, so that they form no ring.
    feeds, lines = {}, []
    for name in held:
        feeds[f"{name}.in"] = chance.choice(lines if lines and chance.random() < 0.5 else every or [None])
        if feeds[f"{name}.in"] is None:
            return None
        lines.append(out(name))
    for name in names:
        for port in PORTS[texts[name].split()[0]][0]:
            choice = lines if lines and chance.random() < back else before
            if not choice + lines:
                return None
            wires[f"{name}.{port}"] = chance.choice(choice or lines)
        before = before + ports(name)
    if not before + lines:
        return None
    outputs = {name: chance.choice(before + lines) for name in "op"[:chance.randrange(3)]}
    parts = {**texts, **{name: f"delay {chance.randrange(3)}" for name in held}}
    return net_of(heads, parts, {**wires, **feeds}, outputs)
