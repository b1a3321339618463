"""Diagrams, libraries and odd values that several tests use."""

from stepblocks.blocks import Diagram
from stepblocks.library import Library

COUNTER = """block counter(up; count total)
  part old = delay 0
  part sum = add
  old.in <- sum.out
  sum.a <- old.out
  sum.b <- up
  count <- old.out
  total <- sum.out
end"""
USER = """block user(; x)
  part one = counter
  one.up <- one.count
  x <- one.total
end"""
# Diagrams one in another, with wires straight through, delays at two depths and a part that no output uses.
NESTED = """block inner(a b; sum old same)
  part s = add
  part d = delay 5
  s.a <- a
  s.b <- d.out
  d.in <- b
  sum <- s.out
  old <- d.out
  same <- b
end
block middle(x; p q)
  part first = inner
  part idle = divide
  part second = inner
  first.a <- x
  first.b <- first.sum
  idle.a <- second.sum
  idle.b <- x
  second.a <- first.same
  second.b <- first.old
  p <- second.same
  q <- second.sum
end
block top(y z; r s t)
  part m = middle
  part e = delay 9
  m.x <- y
  e.in <- m.q
  r <- e.out
  s <- m.p
  t <- m.q
end"""
ODD_VALUES = (None, True, False, 0, 1, -1, 2, 2 ** 32, 10 ** 30, "", "a", "out", "add", (), [], {}, ("a",), ["a"],
              ("a", "b"), ("a", ("b",)), {"a": 1}, [[]], ((),), ([],), ({},), (((),),), (("a",), "out"), ((), "x"),
              [("a",), "out"], (["a"], "out"), ((1,), "out"), ((True,), "x"), ((), 0), ((), None), ((), ["x"]))


def deep_value(depth):
    """Return a value that is nested so many levels deep."""
    value = "x"
    for k in range(depth):
        value = ((value,), [value], {"a": value})[k % 3]
    return value


def library_of(*texts):
    return Library.parse("\n".join(texts))


def diagrams_of(*texts):
    return [Diagram.parse(text) for text in texts]


def named(number):
    """Return a name for each number, in ascending order."""
    return "n" + chr(97 + number // 26) + chr(97 + number % 26)


def chain_texts(depth):
    """Return the texts of diagrams one in another, so many deep; the first one is the innermost."""
    texts = [f"block {named(0)}(a; o)\n  part x = delay 1\n  x.in <- a\n  o <- x.out\nend"]
    for k in range(1, depth):
        texts.append(f"block {named(k)}(a; o)\n  part p = {named(k - 1)}\n  p.a <- a\n  o <- p.o\nend")
    return texts


def many_parts(name, blocks):
    """Return the text of a diagram without ports, with parts of these blocks, which have no ports or are consts."""
    rows = [f"  part {chr(97 + k)} = {block}" for k, block in enumerate(blocks)]
    return "\n".join([f"block {name}(;)", *rows, "end"])


def sized_library(more):
    """Return a library with a diagram `top` of 256 parts at all depths, and some more."""
    leaf = many_parts("leaf", ["const 1"] * 15)
    large = many_parts("large", ["const 1"] * (15 + more))
    return library_of(leaf, large, many_parts("top", ["leaf"] * 15 + ["large"]))


def variants(value):
    """Yield values that differ from a nested one at one place: another item, one less, one twice, another kind."""
    yield from ODD_VALUES
    yield deep_value(50)
    if isinstance(value, (list, tuple)):
        kind, items = type(value), list(value)
        yield (tuple if kind is list else list)(items)
        yield dict(enumerate(items))
        for k, item in enumerate(items):
            yield kind(items[:k] + items[k + 1:])
            yield kind(items[:k] + [item] + items[k:])
            if k:
                yield kind(items[:k - 1] + [item, items[k - 1]] + items[k + 1:])
            for other in variants(item):
                yield kind(items[:k] + [other] + items[k + 1:])
    elif isinstance(value, str):
        yield value + "x"
        yield value[:-1]
        yield value.encode()
    elif isinstance(value, int):
        yield value + 1
        yield value - 1
        yield float(value)
