"""Sources that have equal values for all readings of the primitives (points 21 to 23)."""

from stepblocks.errors import OtherPorts, UnknownPort
from stepblocks.origins import list_origins, pass_delays
from stepblocks.ports import is_port
from stepblocks.terms import Terms, Unfolding


def are_alike(net, source, other, second):
    """Tell whether a source of one net is alike to one of another net."""
    return closed_pairs(net, source, other, second) is not None


def closed_pairs(net, source, other, second):
    """Return a closed list with the pair of two sources, or None if they are not alike."""
    origins, others = _list_both(net, other)
    _check_source(source, origins)
    _check_source(second, others)
    found = {(source, second): True}
    left = [(source, second)]
    while left:
        needed = _list_needed(left.pop(), origins, others)
        if needed is None:
            return None
        for pair in needed:
            if pair not in found:
                found[pair] = True
                left.append(pair)
    return list(found)


def is_closed(net, other, value):
    """Tell whether a value, which may be any value, is a closed list of pairs of sources."""
    origins, others = _list_both(net, other)
    if not isinstance(value, list) or not all([_is_pair(pair, origins, others) for pair in value]):
        return False
    listed = {pair: True for pair in value}
    for pair in value:
        needed = _list_needed(pair, origins, others)
        if needed is None or not all([more in listed for more in needed]):
            return False
    return True


def _list_both(net, other):
    """Return the origins of the sources of two nets, or raise OtherPorts."""
    if net.inputs != other.inputs:
        raise OtherPorts()
    return list_origins(net), list_origins(other)


def _is_source(value, origins):
    return is_port(value) and value in origins


def _check_source(value, origins):
    """Raise UnknownPort if a value, which may be any value, is no source."""
    if not _is_source(value, origins):
        raise UnknownPort(value)


def _is_pair(value, origins, others):
    if not isinstance(value, tuple) or len(value) != 2:
        return False
    return _is_source(value[0], origins) and _is_source(value[1], others)


def _list_needed(pair, origins, others):
    """Return the pairs that a closed list with this pair must have; None if no closed list has this pair."""
    source, second = pair
    one, two = origins[source], others[second]
    if (one.word, one.constant, one.name) == (two.word, two.constant, two.name):
        return [(one.feeds[name], two.feeds[name]) for name in one.feeds]
    if one.constant == two.constant and (one.word, two.word) == ("const", "delay"):
        return [(source, two.feeds["in"])]
    if one.constant == two.constant and (one.word, two.word) == ("delay", "const"):
        return [(one.feeds["in"], second)]
    return None


def parting(net, source, other, second):
    """Return the least instant, and a route, that tell two sources apart; None if they are alike."""
    if are_alike(net, source, other, second):
        return None
    terms = Terms()
    one, two = Unfolding(list_origins(net), terms), Unfolding(list_origins(other), terms)
    instant = 0
    one.go_on()
    two.go_on()
    while one.number_at(source, instant) == two.number_at(second, instant):
        instant += 1
        one.go_on()
        two.go_on()
    return (instant, _find_route(one, source, two, second, instant))


def _find_route(one, source, two, second, instant):
    """Return a route that tells apart two sources, which have different values in an instant."""
    route = []
    # Delays may lead the two walks to different instants.
    other_instant = instant
    while True:
        source, instant = pass_delays(one.origins, source, instant)
        second, other_instant = pass_delays(two.origins, second, other_instant)
        origin, other = one.origins[source], two.origins[second]
        if not origin.is_rule or (origin.word, origin.name) != (other.word, other.name):
            return route
        names = [name for name in origin.feeds if one.number_at(origin.feeds[name], instant)
                 != two.number_at(other.feeds[name], other_instant)]
        route.append(names[0])
        source, second = origin.feeds[names[0]], other.feeds[names[0]]


def walk_from(net, source, instant, route):
    """Return the list of the pairs that a walk passes, and its end; None if it is not possible."""
    origins = list_origins(net)
    _check_source(source, origins)
    source, instant = pass_delays(origins, source, instant)
    passed = []
    for name in route:
        origin = origins[source]
        if not origin.is_rule or name not in origin.feeds:
            return None
        passed.append((origin.word, origin.name))
        source, instant = pass_delays(origins, origin.feeds[name], instant)
    return (passed, _end_of(origins[source], instant))


def _end_of(origin, instant):
    """Return the end of a walk that has come to an origin."""
    if origin.word == "input":
        return ("input", origin.name, instant)
    if origin.is_rule:
        return (origin.word, origin.name)
    return ("value", origin.constant)
