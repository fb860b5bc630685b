"""Long sessions of many lines, drawn from fixed seeds: cut anywhere they answer the same, and nothing is lost count of."""

import random
import unittest

from handhouse.desk import answers
from handhouse.house import House
from tests.helper import (
    CLOSE_LINE, LINE_CLOSED, WAY_UP, ack, bind, cancel, channel_close, channel_closed, channel_open, consume,
    declare_exchange, declare_queue, delete_exchange, delete_queue, frame, frames, get, limit, method, post, publish,
    purge, recover, reject, split_answers, unbind,
)

NAMES = ("", "a", "b", "c", "d", "a b")
KEYS = ("", "a", "b", "a.b", "a.*", "#", "*")
KINDS = ("direct", "fanout", "topic", "topic", "headers")
FRESH = WAY_UP + channel_open(1) + channel_open(2) + channel_open(3)


def start():
    """Exchanges, queues and bindings to begin with, so that much is handed out."""
    rows = [declare_exchange(1, name, kind) for name, kind in (("a", "topic"), ("b", "fanout"), ("c", "direct"))]
    rows += [declare_queue(1, name) for name in ("b", "a", "c")]
    rows += [bind(1, queue, exchange, key) for queue, exchange, key in (
        ("a", "a", "#"), ("b", "a", "a.*"), ("c", "a", "*"), ("a", "b", ""), ("c", "b", "x"), ("b", "c", "a"))]
    return sum(rows, [])


def handed_number(house, line, channel, draw):
    """The number of something that's handed out on the channel, most of the time."""
    known = house.lines[line].channels.get(channel)
    if known is None or not known.handed or draw.random() < 0.1:
        return draw.randrange(6)
    return draw.choice(list(known.handed))


def one_row(draw, house, line):
    """One thing that a program may say, mostly in order."""
    channel = draw.choice((1, 1, 1, 2, 2, 3))
    name = draw.choice(NAMES[1:5] if draw.random() < 0.9 else NAMES)
    other = draw.choice(NAMES[1:4])
    key = draw.choice(KEYS)
    bits = draw.choice((0, 0, 0, 1, 2, 3, 4, 8, 16))
    number = handed_number(house, line, channel, draw)
    letters = [draw.randrange(256) for place in range(draw.choice((0, 0, 1, 5, 60)))]
    rows = (
        lambda: post(channel, draw.choice(("", other)), draw.choice((name, key)), letters, bits % 2),
        lambda: post(channel, other, key, letters, bits % 2),
        lambda: declare_exchange(channel, other, draw.choice(KINDS[:4]), bits & 16),
        lambda: declare_queue(channel, name, bits & 16), lambda: declare_queue(channel, name, bits),
        lambda: bind(channel, name, other, key, bits), lambda: unbind(channel, name, other, key),
        lambda: consume(channel, name, draw.choice(("", "", "t", "u", "v")), bits),
        lambda: get(channel, name, bits), lambda: ack(channel, number, bits), lambda: reject(channel, number, bits),
        lambda: recover(channel), lambda: limit(channel, draw.randrange(4)), lambda: cancel(channel, "t", bits),
    )
    rare = (
        lambda: delete_exchange(channel, other, bits), lambda: delete_queue(channel, name, bits),
        lambda: purge(channel, name, bits), lambda: channel_close(channel), lambda: channel_closed(channel),
        lambda: declare_exchange(channel, name, draw.choice(KINDS), bits),
        lambda: publish(channel, other, key), lambda: frame(draw.randrange(9), draw.randrange(4), letters),
        lambda: CLOSE_LINE, lambda: method(channel, draw.choice((20, 50, 60)), draw.choice((10, 20, 40))),
        lambda: frame(8, 0, []), lambda: frame(1, 0, letters, 7) if draw.random() < 0.2 else [],
    )
    return draw.choice(rows if draw.random() < 0.93 else rare)()


def mend(house, line, draw):
    """What a program does when its line or one of its channels was ended, most of the time."""
    if draw.random() < 0.2:
        return []
    state = house.lines[line]
    if state.stage == "ending":
        return [(line, LINE_CLOSED), (line, None), (line, FRESH)]
    if state.stage == "closed":
        return [(line, None), (line, FRESH)]
    steps = [(line, channel_closed(channel)) for channel in list(state.shut)]
    return steps + [(line, channel_open(channel)) for channel in (1, 2, 3) if channel not in state.channels]


def session(seed):
    """A list of (line, bytes) and (line, None): what comes, and when a line is closed and opened again."""
    draw = random.Random(seed)
    house = House()
    steps = [(line, None) for line in range(3)] + [(line, FRESH) for line in range(3)] + [(0, start())]
    run(house, steps)
    for time in range(draw.choice((30, 90))):
        line = draw.randrange(3)
        more = [(line, one_row(draw, house, line))]
        if draw.random() < 0.01:
            more += [(line, None), (line, FRESH)]
        run(house, more)
        mended = mend(house, line, draw)
        run(house, mended)
        steps += more + mended
    return steps


def calls_of(steps, cut):
    """The steps as calls; cut tells into what pieces each row of bytes is cut."""
    calls = []
    for line, row in steps:
        if row is None:
            calls += [1, line, 0, line]
        else:
            for piece in cut(row):
                calls += [2, line, len(piece)] + piece
        calls += [3, line, 65536]
    return calls + [3, 0, 65536, 3, 1, 65536, 3, 2, 65536, 4]


def whole(row):
    return [row]


def singles(row):
    return [[byte] for byte in row]


def pieces(seed):
    draw = random.Random(seed)

    def cut(row):
        at = 0
        parts = []
        while at < len(row):
            size = draw.choice((1, 2, 3, 7, 8, 20, 50))
            parts.append(row[at:at + size])
            at += size
        return parts
    return cut


def outputs(calls):
    """All that a session answers but for input."""
    answered = split_answers(answers(calls))
    kept = []
    at = 0
    for answer in answered:
        if calls[at] != 2:
            kept.append(answer)
            at += {0: 2, 1: 2, 3: 3, 4: 1}[calls[at]]
        else:
            at += 3 + calls[at + 2]
    return kept


def run(house, steps):
    for line, row in steps:
        if row is None:
            house.close_line(line)
            house.open_line(line)
        else:
            house.take_in(line, row)


class Sessions(unittest.TestCase):
    def test_cut_anywhere(self):
        for seed in range(60):
            steps = session(seed)
            expected = outputs(calls_of(steps, whole))
            self.assertEqual(outputs(calls_of(steps, singles)), expected, seed)
            self.assertEqual(outputs(calls_of(steps, pieces(seed))), expected, seed)

    def test_all_that_is_sent_is_frames(self):
        for seed in range(60):
            house = House()
            steps = session(seed)
            for place, step in enumerate(steps):
                run(house, [step])
                row = house.give_out(step[0], 65536)[1:]
                for kind, channel, body in frames(row):
                    self.assertIn(kind, (1, 2, 3))
                    self.assertLessEqual(channel, 3)

    def test_the_room_is_counted_right(self):
        for seed in range(60):
            house = House()
            for step in session(seed):
                run(house, [step])
                queues = list(house.store.queues.values())
                channels = [channel for line in house.lines for channel in line.channels.values()]
                messages = sum([queue.waiting for queue in queues], [])
                messages += sum([list(channel.handed.values()) for channel in channels], [])
                self.assertEqual(house.store.held, sum(len(message.content) + 64 for message in messages))
                self.assertEqual(len(set(map(id, messages))), len(messages))

    def test_nothing_waits_that_could_be_handed_out(self):
        for seed in range(60):
            house = House()
            for step in session(seed):
                run(house, [step])
                for queue in house.store.queues.values():
                    if queue.waiting:
                        self.assertFalse(any(taker.may_take() for taker in queue.takers))
                    for taker in queue.takers:
                        self.assertEqual(taker.channel.line.channels[taker.channel.place], taker.channel)

    def test_the_sessions_are_lively(self):
        seen = set()
        for seed in range(60):
            house = House()
            for step in session(seed):
                run(house, [step])
                for kind, channel, body in frames(house.give_out(step[0], 65536)[1:]):
                    if kind == 1:
                        seen.add((body[1], body[3]))
        for wanted in ((10, 50), (10, 51), (20, 11), (20, 40), (20, 41), (40, 11), (40, 21), (50, 11), (50, 21),
                       (50, 31), (50, 41), (50, 51), (60, 11), (60, 21), (60, 31), (60, 50), (60, 60), (60, 71),
                       (60, 72), (60, 111)):
            self.assertIn(wanted, seen)


if __name__ == "__main__":
    unittest.main()
