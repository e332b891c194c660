"""What is told of a router, and the bytes of a message that tells it."""

ROUTERS = 64
MOST_ROADS = 8
HEAD_BYTES = 6
ROAD_BYTES = 3


class Told:
    """A router's name, the number of what is told of it, and its roads: (router, cost), by rising names."""

    def __init__(self, name, number, roads):
        self.name = name
        self.number = number
        self.roads = roads

    def cost_to(self, name):
        """What its road to this router costs, or 0 where it has none."""
        for to, cost in self.roads:
            if to == name:
                return cost
        return 0


def is_router(name):
    return 0 <= name < ROUTERS


def message_of(told):
    """The bytes of the message that tells this."""
    octets = [told.name, len(told.roads)]
    octets.extend([(told.number >> shift) & 255 for shift in (24, 16, 8, 0)])
    for name, cost in told.roads:
        octets.extend([name, cost >> 8, cost & 255])
    return octets


def read_message(octets):
    """What a message tells, or None where it is not well formed."""
    if not has_right_length(octets):
        return None
    told = Told(octets[0], number_in(octets[2:HEAD_BYTES]), roads_in(octets))
    if is_well_formed(told):
        return told
    return None


def has_right_length(octets):
    if len(octets) < HEAD_BYTES or octets[1] > MOST_ROADS:
        return False
    return len(octets) == HEAD_BYTES + ROAD_BYTES * octets[1]


def number_in(octets):
    number = 0
    for octet in octets:
        number = number * 256 + octet
    return number


def roads_in(octets):
    roads = []
    for at in range(HEAD_BYTES, len(octets), ROAD_BYTES):
        roads.append((octets[at], number_in(octets[at + 1:at + ROAD_BYTES])))
    return roads


def is_well_formed(told):
    if not is_router(told.name) or told.number == 0:
        return False
    before = -1
    for name, cost in told.roads:
        if not is_router(name) or name <= before or name == told.name or cost == 0:
            return False
        before = name
    return True
