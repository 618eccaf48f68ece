"""Lines of the groups and of the rings of a net, by unions and by meets."""

from staybars.entries import check_prime
from staybars.errors import BadPlace, BadWay
from staybars.kinds import is_from_to
from staybars.lines import BACK, FORTH
from staybars.nets import check_net
from staybars.nettables import GROUPS, RINGS, line_of_rooms, ring_rows
from staybars.plain import there_both, there_on, there_over

UNIONS = "unions"
MEETS = "meets"


def is_net_way(value):
    """Whether any value is unions or meets."""
    return isinstance(value, str) and value in (UNIONS, MEETS)


def check_way(way):
    """Raise BadWay for any value that is neither unions nor meets."""
    if not is_net_way(way):
        raise BadWay(way)


def last_place(net):
    """The last place of the lines of a net."""
    return 2 * net[0]


def there_at(net, way, place):
    """The numbers of the points and of the ties that are there at a place of the lines of a net."""
    day = place // 2
    if place == 2 * day:
        return there_on(net, day)
    if way == UNIONS:
        return there_over(net, day)
    return there_both(net, day)


def signs_by(net, way):
    """The signs of the lines of a net, in turn."""
    turns = (FORTH, BACK) if way == UNIONS else (BACK, FORTH)
    return turns * net[0]


def line_of_net(net, kind, way, p):
    """The line of groups or of rings of what is known to be a net."""
    theres = [there_at(net, way, place) for place in range(last_place(net) + 1)]
    return line_of_rooms(net, kind, p, signs_by(net, way), theres)


def check_net_way(net, way):
    """Raise BadNet for the net, then BadWay for the way."""
    check_net(net)
    check_way(way)


def groups_line(net, way, p):
    """The line of groups of a net."""
    check_net_way(net, way)
    check_prime(p)
    return line_of_net(net, GROUPS, way, p)


def rings_line(net, way, p):
    """The line of rings of a net."""
    check_net_way(net, way)
    check_prime(p)
    return line_of_net(net, RINGS, way, p)


def ring_base(net, way, place, p):
    """The base of the ring rows of a place."""
    check_net_way(net, way)
    if not is_from_to(place, 0, last_place(net)):
        raise BadPlace(place)
    check_prime(p)
    return ring_rows(net, p, there_at(net, way, place)[1])
