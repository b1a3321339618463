"""Points 8 to 11 once more, by plain search, to which the program is compared."""

from stepblocks.blocks import Diagram, Primitive
from stepblocks.texts import is_primitive


def port_edges(library, name, path=()):
    """Return the edges of the graph of point 8 of a diagram, all depths included."""
    diagram, edges = library[name], []
    for (part, port), (other, source) in diagram.wires:
        edges.append((((path + (other,)) if other else path, source), ((path + (part,)) if part else path, port)))
    for part, block in diagram.parts:
        below = path + (part,)
        if not is_primitive(block):
            edges.extend(port_edges(library, block, below))
        elif not block.startswith("delay"):
            known = Primitive.parse(block)
            edges.extend(((below, a), (below, b)) for a in known.inputs for b in known.outputs)
    return edges


def next_nodes(edges):
    following = {}
    for one, other in edges:
        following.setdefault(one, []).append(other)
        following.setdefault(other, [])
    return following


def reached_from(following, start):
    """Return the nodes to which a path of one or more edges leads."""
    seen, left = set(), list(following.get(start, []))
    while left:
        node = left.pop()
        if node not in seen:
            seen.add(node)
            left.extend(following[node])
    return seen


def has_cycle(edges):
    following = next_nodes(edges)
    return any(node in reached_from(following, node) for node in following)


def profile_of(inputs, outputs, needs_of):
    """Return the profile of point 9 for a dict from the outputs to sets of inputs."""
    profile = []
    for output in outputs:
        needs = tuple(name for name in inputs if name in needs_of[output])
        if needs not in [known for _, known in profile]:
            same = tuple(other for other in outputs if needs_of[other] == needs_of[output])
            profile.append((same, needs))
    return tuple(profile)


def port_profile(library, name):
    """Return the profile of a diagram by its ports, or None if it is not accepted."""
    edges = port_edges(library, name)
    if has_cycle(edges):
        return None
    diagram, following = library[name], next_nodes(edges)
    needs = {output: {given for given in diagram.inputs if ((), output) in reached_from(following, ((), given))}
             for output in diagram.outputs}
    return profile_of(diagram.inputs, diagram.outputs, needs)


def step_edges(diagram, faces):
    """Return the edges of point 10 between step functions, inputs ("", name) and outputs (None, name)."""
    maker = {(part, name): (part, number) for part, face in faces.items()
             for number, (names, _) in enumerate(face[2]) for name in names}
    sources = dict(diagram.wires)
    edges = []
    for part, face in faces.items():
        for number, (_, needs) in enumerate(face[2]):
            for need in needs:
                source = sources[(part, need)]
                edges.append((maker.get(source, source), (part, number)))
    for output in diagram.outputs:
        source = sources[("", output)]
        edges.append((maker.get(source, source), (None, output)))
    return edges


def step_profile(diagram, faces):
    """Return the profile of a diagram by step functions, or None if it is not accepted."""
    edges = step_edges(diagram, faces)
    if has_cycle(edges):
        return None
    following = next_nodes(edges)
    needs = {output: {given for given in diagram.inputs if (None, output) in reached_from(following, ("", given))}
             for output in diagram.outputs}
    return profile_of(diagram.inputs, diagram.outputs, needs)


def in_order(faces, sources, chosen):
    """Return the calls of the chosen step functions in the order of point 11."""
    place = {part: number for number, part in enumerate(faces)}
    done, calls, left = set(), [], set(chosen)
    made = {}
    for part, face in faces.items():
        for number, (names, _) in enumerate(face[2]):
            made.update({(part, name): (part, number) for name in names})
    while left:
        able = [(part, number) for part, number in left
                if all(made.get(sources[(part, need)], None) in done or sources[(part, need)][0] == ""
                       for need in faces[part][2][number][1])]
        part, number = min(able, key=lambda call: (place[call[0]], call[1]))
        arguments = tuple((need, sources[(part, need)]) for need in faces[part][2][number][1])
        calls.append((part, number, arguments))
        done.add((part, number))
        left.remove((part, number))
    return tuple(calls)


def needed_calls(faces, sources, wanted):
    """Return the step functions that are needed for sources."""
    found, left = set(), list(wanted)
    while left:
        part, name = left.pop()
        if part == "":
            continue
        number = next(k for k, (names, _) in enumerate(faces[part][2]) if name in names)
        if (part, number) not in found:
            found.add((part, number))
            left.extend(sources[(part, need)] for need in faces[part][2][number][1])
    return found


def code_of(diagram, faces, profile):
    """Return the steps and the end of point 11."""
    sources = dict(diagram.wires)
    steps = []
    for outputs, _ in profile:
        results = tuple((output, sources[("", output)]) for output in outputs)
        chosen = needed_calls(faces, sources, [source for _, source in results])
        steps.append((in_order(faces, sources, chosen), results))
    every = [(part, number) for part, face in faces.items() for number in range(len(face[2]))]
    feeds = tuple((part, name, sources[(part, name)]) for part, face in faces.items() for name in sorted(face[0]))
    return tuple(steps), (in_order(faces, sources, every), feeds)


def faces_of(diagram, interfaces):
    """Return the interfaces of the parts, by the names of the parts."""
    return {part: Primitive.parse(block).interface if is_primitive(block) else interfaces[block]
            for part, block in diagram.parts}


def is_cycle(diagram, faces, value):
    """Tell whether a value is a cycle of step functions as Cycle has it."""
    edges = set(step_edges(diagram, faces))
    if not isinstance(value, list) or not value or len(set(value)) != len(value):
        return False
    return all(pair in edges for pair in zip(value, value[1:] + value[:1]))


def text_of(name, inputs, outputs, parts, wires):
    """Return the text of a diagram, for wires as a dict from targets to sources, both as texts."""
    rows = [f"block {name}({' '.join(inputs)};{''.join(' ' + output for output in outputs)})"]
    rows += [f"  part {part} = {block}" for part, block in parts]
    rows += [f"  {target} <- {source}" for target, source in wires.items()]
    return "\n".join([*rows, "end"])


def random_diagram(chance, name, blocks, most_parts):
    """Return a diagram with a wire to each target; blocks is a dict from texts to (inputs, outputs, ..)."""
    inputs = chance.sample(["a", "b", "c", "d"], chance.randrange(4))
    outputs = chance.sample(["p", "q", "r", "s", "t"], chance.randrange(1, 5))
    names = chance.sample(["k", "l", "m", "n", "o", "u", "v", "w"], chance.randrange(1, most_parts + 1))
    parts = [(part, chance.choice(list(blocks))) for part in names]
    sources, wires, forward = list(inputs), {}, chance.randrange(4)
    everything = inputs + [f"{part}.{port}" for part, block in parts for port in blocks[block][1]]
    order = list(parts)
    chance.shuffle(order)
    for part, block in order:
        for port in blocks[block][0]:
            # Most wires lead from parts that come before in some order, else hardly any diagram is accepted.
            choice = sources if forward or block.startswith("delay") and not everything else everything
            if block.startswith("delay") or not chance.randrange(20) or not choice:
                choice = everything
            if not choice:
                return None
            wires[f"{part}.{port}"] = chance.choice(choice)
        sources += [f"{part}.{port}" for port in blocks[block][1]]
    for output in outputs:
        if not everything:
            return None
        wires[output] = chance.choice(everything)
    return Diagram.parse(text_of(name, inputs, outputs, parts, wires))
