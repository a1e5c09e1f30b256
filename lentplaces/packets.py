"""The packets that come in: which are right, and what counts of them."""

COOKIE = (99, 130, 83, 99)
COOKIE_AT = 236
OPTIONS_AT = 240
SMALLEST = 244
LARGEST = 576

FILLING = 0
WANTED = 50
OVERLOAD = 52
KIND = 53
SERVER = 54
IDENTIFIER = 61
END = 255

# The least and the most bytes of the options whose length matters.
LENGTHS = {
    50: (4, 4),
    51: (4, 4),
    53: (1, 1),
    54: (4, 4),
    55: (1, 255),
    57: (2, 2),
    61: (2, 32),
}


class Message:
    def __init__(self, packet, options):
        self.number = packet[4:8]
        self.flags = packet[10:12]
        self.client = number_of(packet[12:16])
        self.relay = number_of(packet[24:28])
        self.machine = packet[28:44]
        self.kind = options[KIND][0]
        self.wanted = address_in(options, WANTED)
        self.server = address_in(options, SERVER)
        self.identifier = options.get(IDENTIFIER)
        self.who = self.identifier
        if self.identifier is None:
            self.who = [1] + self.machine[:6]


def number_of(digits):
    number = 0
    for digit in digits:
        number = number * 256 + digit
    return number


def address_in(options, number):
    if number in options:
        return number_of(options[number])
    return None


def read_message(packet):
    if not SMALLEST <= len(packet) <= LARGEST:
        return None
    if packet[:3] != [1, 1, 6] or packet[COOKIE_AT:OPTIONS_AT] != list(COOKIE):
        return None
    options = read_options(packet)
    if options is None or not are_right(options):
        return None
    return Message(packet, options)


def read_options(packet):
    options = {}
    at = OPTIONS_AT
    # An option that is cut off leads beyond the packet, where no end is found.
    while at + 1 < len(packet) and packet[at] != END:
        number = packet[at]
        if number == FILLING:
            at += 1
        elif number in options:
            return None
        else:
            behind = at + 2 + packet[at + 1]
            options[number] = packet[at + 2:behind]
            at = behind
    if at >= len(packet) or packet[at] != END or any(packet[at + 1:]):
        return None
    return options


def are_right(options):
    if OVERLOAD in options or KIND not in options:
        return False
    for number in LENGTHS:
        if number in options:
            bounds = LENGTHS[number]
            if not bounds[0] <= len(options[number]) <= bounds[1]:
                return False
    return True
