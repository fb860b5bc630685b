"""A line, and the channels on it."""

from handhouse.wire import content_bytes
from handhouse.wire import method_bytes
from handhouse.wire import number_bytes
from handhouse.wire import size_with_content
from handhouse.wire import text_bytes

SENT_AT_MOST = 524288
NUMBERS = 18446744073709551616


class Line:
    """What has come on a line and isn't done with, and what waits to be sent there.

    Its stage is "closed", "fresh" (the eight bytes are awaited), the method that is awaited on the
    way up, such as "10 11", then "up" or "ending". Its channels stand in the order of their opening.
    """

    def __init__(self):
        self.stage = "closed"
        self.kept = []
        self.at = 0
        self.unsent = []
        self.channels = {}
        self.shut = {}

    def start(self):
        self.stage = "fresh"
        self.unsent = []

    def finish(self):
        self.stage = "closed"
        self.kept = []
        self.at = 0
        self.shut = {}

    def left(self):
        return len(self.kept) - self.at

    def drop_used(self):
        self.kept = self.kept[self.at:]
        self.at = 0

    def fits(self, size):
        return len(self.unsent) + size <= SENT_AT_MOST

    def send(self, row):
        if self.fits(len(row)):
            self.unsent.extend(row)

    def send_method(self, place, group, method, taken):
        self.send(method_bytes(place, group, method, taken))

    def send_content(self, place, group, method, taken, content):
        """A method and its content are sent together or not at all."""
        if self.fits(size_with_content(taken, content)):
            self.unsent.extend(method_bytes(place, group, method, taken))
            self.unsent.extend(content_bytes(place, content))

    def take_unsent(self, most):
        row = self.unsent[:most]
        self.unsent = self.unsent[most:]
        return row


class Channel:
    """A channel, with what was handed out on it, by number, in the order of handing out."""

    def __init__(self, line, place):
        self.line = line
        self.place = place
        self.handed = {}
        self.last = 0
        self.most = 0
        self.posting = None

    def answer(self, group, method, taken):
        self.line.send_method(self.place, group, method, taken)

    def answer_content(self, group, method, taken, content):
        self.line.send_content(self.place, group, method, taken, content)

    def has_leave(self):
        return self.most == 0 or len(self.handed) < self.most

    def count_handed(self, message, freely):
        self.last = (self.last + 1) % NUMBERS
        if not freely:
            self.handed[self.last] = message
        return self.last

    def take_handed(self, numbers):
        messages = []
        for number in numbers:
            messages.append(self.handed.pop(number))
        return messages

    def deliver(self, tag, number, message):
        taken = text_bytes(tag) + number_bytes(number, 8) + [message.before]
        taken = taken + text_bytes(message.exchange) + text_bytes(message.key)
        self.answer_content(60, 60, taken, message.content)
