"""The answers to packets: their bytes, and where they are sent to."""

from lentplaces.packets import COOKIE, number_of

OFFER = 2
ACK = 5
NAK = 6

EVERYBODY = 4294967295
BROADCAST_FLAGS = 32768
RELAY_PORT = 67
CLIENT_PORT = 68
LEAST_BYTES = 300


# No address that is lent is 0, so 0 stands for an answer that gives none.
def reply(net, message, kind, given):
    packet = header(message, kind, given) + options_of(net, message, kind, given)
    packet.extend([0] * (LEAST_BYTES - len(packet)))
    return [len(packet), address_for(message, kind, given), port_for(message)] + packet


def header(message, kind, given):
    client = 0
    if kind == ACK:
        client = message.client
    start = [2, 1, 6, 0] + message.number + [0, 0] + message.flags
    addresses = four_bytes(client) + four_bytes(given) + four_bytes(0) + four_bytes(message.relay)
    return start + addresses + message.machine + [0] * 192 + list(COOKIE)


def options_of(net, message, kind, given):
    options = [53, 1, kind] + number_option(54, net.server)
    if given != 0:
        options.extend(number_option(51, net.how_long))
        options.extend(number_option(58, net.how_long // 2))
        options.extend(number_option(59, net.how_long // 8 * 7))
    if kind != NAK:
        options.extend(number_option(1, net.mask))
        options.extend(number_option(3, net.way_out))
        options.extend(number_option(6, net.names))
    if message.identifier is not None:
        options.extend([61, len(message.identifier)] + message.identifier)
    return options + [255]


def number_option(option, number):
    return [option, 4] + four_bytes(number)


def four_bytes(number):
    return [number >> 24, (number >> 16) & 255, (number >> 8) & 255, number & 255]


def address_for(message, kind, given):
    if message.relay != 0:
        return message.relay
    if kind == NAK:
        return EVERYBODY
    if message.client != 0:
        return message.client
    if number_of(message.flags) >= BROADCAST_FLAGS:
        return EVERYBODY
    return given


def port_for(message):
    if message.relay != 0:
        return RELAY_PORT
    return CLIENT_PORT
