"""How numbers, texts and frames are laid out in bytes, and read from them."""

from handhouse.faults import Misfit

FRAME_END = 206
METHOD = 1
HEADER = 2
BODY = 3
CONTENT_GROUP = 60
HEADER_SIZE = 14
METHOD_SIZE = 4
AROUND_BODY = 8


def codes(words):
    """A written text as the tuple of its bytes."""
    return tuple([ord(sign) for sign in words])


def number_bytes(value, size):
    row = []
    while len(row) < size:
        row.append(value % 256)
        value = value // 256
    row.reverse()
    return row


def number_of(row):
    value = 0
    for byte in row:
        value = value * 256 + byte
    return value


def method_of(body):
    """Class and method of a frame of kind 1 that has at least 4 bytes."""
    return (number_of(body[0:2]), number_of(body[2:4]))


def method_word(body):
    """The same as a text, such as "10 11"."""
    group = number_of(body[0:2])
    method = number_of(body[2:4])
    return f"{group} {method}"


def text_bytes(letters):
    return [len(letters)] + list(letters)


def frame_bytes(kind, place, body):
    row = [kind]
    row.extend(number_bytes(place, 2))
    row.extend(number_bytes(len(body), 4))
    row.extend(body)
    row.append(FRAME_END)
    return row


def method_bytes(place, group, method, taken):
    return frame_bytes(METHOD, place, number_bytes(group, 2) + number_bytes(method, 2) + taken)


def content_bytes(place, content):
    header = number_bytes(CONTENT_GROUP, 2) + [0, 0] + number_bytes(len(content), 8) + [0, 0]
    row = frame_bytes(HEADER, place, header)
    if len(content) > 0:
        row.extend(frame_bytes(BODY, place, content))
    return row


def size_with_content(taken, content):
    """How many bytes a method and its content are, told without building them."""
    size = AROUND_BODY + METHOD_SIZE + len(taken) + AROUND_BODY + HEADER_SIZE
    if len(content) > 0:
        size = size + AROUND_BODY + len(content)
    return size


def content_length(body):
    """The length that the body of a frame of kind 2 tells."""
    right = len(body) == HEADER_SIZE and number_of(body[0:2]) == CONTENT_GROUP
    if not right or body[2:4] != [0, 0] or body[12:14] != [0, 0]:
        raise Misfit()
    return number_of(body[4:12])


def has_bit(bits, place):
    return (bits >> place) % 2 == 1


class Reader:
    """Goes through what a method takes, part by part."""

    def __init__(self, body, at):
        self.body = body
        self.at = at

    def row(self, size):
        if self.at + size > len(self.body):
            raise Misfit()
        part = self.body[self.at:self.at + size]
        self.at = self.at + size
        return part

    def counted_row(self, size):
        """A row of bytes behind its length, which has so many bytes itself."""
        return tuple(self.row(number_of(self.row(size))))

    def empty_table(self):
        if number_of(self.row(4)) != 0:
            raise Misfit()
        return 0

    def part(self, word):
        if word == "text":
            return self.counted_row(1)
        if word == "long":
            return self.counted_row(4)
        if word == "table":
            return self.empty_table()
        return number_of(self.row(int(word)))


def read_parts(form, body):
    """What stands behind class and method, by a form such as "2 text 1 table": just that, or a Misfit."""
    reader = Reader(body, METHOD_SIZE)
    parts = [reader.part(word) for word in form.split()]
    if reader.at != len(body):
        raise Misfit()
    return parts
