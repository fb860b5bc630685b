"""What the tests share: the bytes that a program sends, and a way to talk with a house.

Nothing here is drawn from the package but `answers`: the expected bytes are laid out anew.
"""

from handhouse.desk import answers

OPENING = [65, 77, 81, 80, 0, 0, 9, 1]
TABLE = [0, 0, 0, 0]


def num(value, size):
    return list(value.to_bytes(size, "big"))


def raw(letters):
    return list(letters.encode("latin-1") if isinstance(letters, str) else letters)


def text(letters):
    row = raw(letters)
    return [len(row)] + row


def frame(kind, channel, body, end=0xCE):
    return [kind] + num(channel, 2) + num(len(body), 4) + list(body) + [end]


def method(channel, group, number, *parts):
    body = num(group, 2) + num(number, 2)
    for part in parts:
        body = body + list(part)
    return frame(1, channel, body)


def header(channel, length):
    return frame(2, channel, num(60, 2) + num(0, 2) + num(length, 8) + num(0, 2))


def content(channel, letters):
    row = raw(letters)
    return header(channel, len(row)) + (frame(3, channel, row) if row else [])


def joined(*rows):
    return [value for row in rows for value in row]


# What a program sends.

START_OK = method(0, 10, 11, TABLE, text("PLAIN"), num(3, 4), [0, 1, 2], text("en_US"))
TUNE_OK = method(0, 10, 31, num(8, 2), num(131072, 4), num(0, 2))
LINE_OPEN = method(0, 10, 40, text("/"), text(""), [0])
CLOSE_LINE = method(0, 10, 50, num(200, 2), text("bye"), num(0, 2), num(0, 2))
LINE_CLOSED = method(0, 10, 51)
WAY_UP = OPENING + START_OK + TUNE_OK + LINE_OPEN


def channel_open(channel):
    return method(channel, 20, 10, text(""))


def channel_close(channel):
    return method(channel, 20, 40, num(200, 2), text("bye"), num(0, 2), num(0, 2))


def channel_closed(channel):
    return method(channel, 20, 41)


def declare_exchange(channel, name, kind="direct", bits=0):
    return method(channel, 40, 10, num(0, 2), text(name), text(kind), [bits], TABLE)


def delete_exchange(channel, name, bits=0):
    return method(channel, 40, 20, num(0, 2), text(name), [bits])


def declare_queue(channel, name, bits=0):
    return method(channel, 50, 10, num(0, 2), text(name), [bits], TABLE)


def bind(channel, queue, exchange, key="", bits=0):
    return method(channel, 50, 20, num(0, 2), text(queue), text(exchange), text(key), [bits], TABLE)


def unbind(channel, queue, exchange, key=""):
    return method(channel, 50, 50, num(0, 2), text(queue), text(exchange), text(key), TABLE)


def purge(channel, queue, bits=0):
    return method(channel, 50, 30, num(0, 2), text(queue), [bits])


def delete_queue(channel, queue, bits=0):
    return method(channel, 50, 40, num(0, 2), text(queue), [bits])


def limit(channel, most):
    return method(channel, 60, 10, num(0, 4), num(most, 2), [0])


def consume(channel, queue, tag="", bits=0):
    return method(channel, 60, 20, num(0, 2), text(queue), text(tag), [bits], TABLE)


def cancel(channel, tag, bits=0):
    return method(channel, 60, 30, text(tag), [bits])


def publish(channel, exchange, key, bits=0):
    return method(channel, 60, 40, num(0, 2), text(exchange), text(key), [bits])


def post(channel, exchange, key, letters="", bits=0):
    return publish(channel, exchange, key, bits) + content(channel, letters)


def get(channel, queue, bits=0):
    return method(channel, 60, 70, num(0, 2), text(queue), [bits])


def ack(channel, number, bits=0):
    return method(channel, 60, 80, num(number, 8), [bits])


def reject(channel, number, bits=0):
    return method(channel, 60, 90, num(number, 8), [bits])


def recover(channel):
    return method(channel, 60, 110, [1])


# What the house sends.

START = method(0, 10, 10, [0, 9], TABLE, num(5, 4), raw("PLAIN"), num(5, 4), raw("en_US"))
TUNE = method(0, 10, 30, num(8, 2), num(131072, 4), num(0, 2))
LINE_OPENED = method(0, 10, 41, [0])
GREETING = START + TUNE + LINE_OPENED


def line_fault(code, group=0, number=0):
    return method(0, 10, 50, num(code, 2), text("no"), num(group, 2), num(number, 2))


def channel_fault(channel, code, group, number):
    return method(channel, 20, 40, num(code, 2), text("no"), num(group, 2), num(number, 2))


def channel_opened(channel):
    return method(channel, 20, 11, num(0, 4))


def queue_declared(channel, name, waiting=0, taking=0):
    return method(channel, 50, 11, text(name), num(waiting, 4), num(taking, 4))


def consuming(channel, tag):
    return method(channel, 60, 21, text(tag))


def delivered(channel, tag, number, exchange, key, letters="", before=0):
    told = method(channel, 60, 60, text(tag), num(number, 8), [before], text(exchange), text(key))
    return told + content(channel, letters)


def got(channel, number, exchange, key, waiting, letters="", before=0):
    told = method(channel, 60, 71, num(number, 8), [before], text(exchange), text(key), num(waiting, 4))
    return told + content(channel, letters)


def got_none(channel):
    return method(channel, 60, 72, [0])


def returned(channel, exchange, key, letters=""):
    return method(channel, 60, 50, num(312, 2), text("none"), text(exchange), text(key)) + content(channel, letters)


def split_answers(row):
    """The list that answers gives back, cut into one list for each call."""
    parts = []
    at = 0
    while at < len(row):
        parts.append(row[at + 1:at + 1 + row[at]])
        at = at + 1 + row[at]
    return parts


class Talk:
    """Calls on one house. Each question hands in all the calls so far, and looks at the last answer."""

    def __init__(self):
        self.calls = []

    def add(self, *numbers):
        self.calls.extend(numbers)
        return self

    def ask(self, *numbers):
        self.calls.extend(numbers)
        assert len(self.calls) <= 30000, "more than may be handed in"
        return split_answers(answers(self.calls))[-1]

    def open(self, line=0):
        return self.add(0, line)

    def close(self, line=0):
        return self.add(1, line)

    def say(self, *rows, line=0):
        row = joined(*rows)
        return self.add(2, line, len(row), *row)

    def hear(self, line=0, most=65536):
        """The bytes that wait on a line, at most so many."""
        answer = self.ask(3, line, most)
        assert answer[0] == len(answer) - 1, answer[:1]
        return answer[1:]

    def reply(self, *rows, line=0):
        """What is sent in answer to this, if nothing waited before."""
        return self.say(*rows, line=line).hear(line)

    def told(self):
        answer = self.ask(4)
        assert answer[0] == 0 and len(answer) == 6, answer
        return answer[1:]

    def up(self, line=0, channels=(1,)):
        """Brings a line up, with channels opened, and takes away what is sent thereby."""
        self.open(line).say(WAY_UP, *[channel_open(channel) for channel in channels], line=line)
        return self.add(3, line, 65536)


def up(line=0, channels=(1,)):
    return Talk().up(line, channels)


def frames(row):
    """Bytes that the house sent, cut into (kind, channel, body)."""
    parts = []
    at = 0
    while at < len(row):
        size = int.from_bytes(bytes(row[at + 3:at + 7]), "big")
        assert row[at + 7 + size] == 0xCE
        parts.append((row[at], row[at + 1] * 256 + row[at + 2], row[at + 7:at + 7 + size]))
        at = at + size + 8
    return parts
