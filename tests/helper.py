"""Calls, packets and expected answers, written from DOC.md alone."""

from lentplaces.server import answers

EVERYBODY = 0xFFFFFFFF


def ip(text):
    number = 0
    for part in text.split("."):
        number = number * 256 + int(part)
    return number


SERVER = ip("10.0.0.1")
MASK = ip("255.255.255.0")
WAY_OUT = ip("10.0.0.254")
NAMES = ip("9.8.7.6")
FIRST = ip("10.0.0.10")
LONG = 1000
MACHINE = [2, 4, 6, 8, 10, 12, 90, 91, 92, 93, 94, 95, 96, 97, 98, 99]
NUMBER = [17, 34, 51, 68]

DISCOVER, OFFER, REQUEST, DECLINE, ACK, NAK, RELEASE, INFORM = range(1, 9)

# The machines of the tests, told apart by their option 61.
ANN = [0, 65]
BOB = [0, 66]
CAT = [0, 67]
DAN = [0, 68]


def net(**changed):
    parts = {
        "server": SERVER, "mask": MASK, "way_out": WAY_OUT, "names": NAMES,
        "first": FIRST, "count": 3, "long": LONG,
    }
    assert set(changed) <= set(parts)
    parts.update(changed)
    return list(parts.values())


def opening(**changed):
    return [0, 7] + net(**changed)


def tick(seconds):
    return [2, seconds]


def look(address):
    return [3, address]


def sending(packet):
    return [1, len(packet)] + packet


def four(number):
    return list(number.to_bytes(4, "big"))


def option(number, data):
    return [number, len(data)] + data


def raw(options, client=0, relay=0, flags=(0, 0), machine=None, number=None, junk=0):
    """A packet with the options as they are handed over, without an end."""
    packet = [1, 1, 6, junk] + (number or NUMBER) + [junk, junk] + list(flags)
    packet += four(client) + [junk] * 8 + four(relay) + (machine or MACHINE)
    packet += [junk] * 192 + [99, 130, 83, 99] + options
    return packet


def packet(kind, who=None, wanted=None, server=None, **others):
    options = option(53, [kind])
    if wanted is not None:
        options += option(50, four(wanted))
    if server is not None:
        options += option(54, four(server))
    if who is not None:
        options += option(61, who)
    return raw(options + [255], **others)


def send(kind, who=None, wanted=None, server=None, **others):
    return sending(packet(kind, who, wanted, server, **others))


def take(who, address):
    """The call that makes an address that is who's own a lent one."""
    return send(REQUEST, who, wanted=address, server=SERVER)


def reply(kind, given=0, to=None, port=68, who=None, client=0, relay=0,
          flags=(0, 0), machine=None, number=None, lent=None):
    """What a packet call answers where it has an answer."""
    lent = lent or net()
    data = [2, 1, 6, 0] + (number or NUMBER) + [0, 0] + list(flags)
    data += four(client if kind == ACK else 0) + four(given) + [0, 0, 0, 0] + four(relay)
    data += (machine or MACHINE) + [0] * 192 + [99, 130, 83, 99]
    data += [53, 1, kind] + option(54, four(lent[0]))
    if given:
        data += option(51, four(lent[6])) + option(58, four(lent[6] // 2))
        data += option(59, four(lent[6] // 8 * 7))
    if kind != NAK:
        data += option(1, four(lent[1])) + option(3, four(lent[2])) + option(6, four(lent[3]))
    if who:
        data += option(61, who)
    data += [255]
    data += [0] * (300 - len(data))
    if to is None:
        to = EVERYBODY if kind == NAK else given
    return [len(data), to, port] + data


def split(answered):
    answered = list(answered)
    parts = []
    while answered:
        count = answered[0]
        assert count >= 1 and len(answered) > count
        parts.append(answered[1:count + 1])
        answered = answered[count + 1:]
    return parts


def run(*calls):
    """What each call answers; two goes answer the same, and calls stay as they were."""
    handed = [number for call in calls for number in call]
    before = list(handed)
    answered = answers(handed)
    assert isinstance(answered, list) and all(isinstance(number, int) for number in answered)
    assert not any(isinstance(number, bool) for number in answered)
    assert handed == before
    assert answers(handed) == answered
    parts = split(answered)
    assert len(parts) == len(calls)
    return parts


def last(*calls):
    return run(*calls)[-1]


OTHER = ip("10.0.0.2")
RELAY = ip("10.0.0.200")
ALL = [look(FIRST), look(FIRST + 1), look(FIRST + 2)]
OFFERED_TO_ANN = [opening(), send(DISCOVER, ANN)]
LENT_TO_ANN = OFFERED_TO_ANN + [take(ANN, FIRST)]
FREED_BY_ANN = LENT_TO_ANN + [send(RELEASE, ANN, client=FIRST, server=SERVER)]
