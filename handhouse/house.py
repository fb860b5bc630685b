"""The house: its eight lines, what comes on them, and the calls."""

from handhouse.faults import ChannelFault
from handhouse.faults import LineFault
from handhouse.faults import Misfit
from handhouse.lines import Channel
from handhouse.lines import Line
from handhouse.methods import origin_of
from handhouse.methods import take_channel_frame
from handhouse.store import Store
from handhouse.wire import FRAME_END
from handhouse.wire import METHOD
from handhouse.wire import codes
from handhouse.wire import method_of
from handhouse.wire import method_word
from handhouse.wire import number_bytes
from handhouse.wire import number_of
from handhouse.wire import read_parts
from handhouse.wire import text_bytes

LINES = 8
OUTPUT_AT_MOST = 65536
LENGTH_AT_MOST = 131064
CHANNELS_AT_MOST = 8
HEARTBEAT = 8

OPENING = (65, 77, 81, 80, 0, 0, 9, 1)
CHANNEL_OPEN = (0, 20, 0, 10, 0)
CHANNEL_CLOSED = (0, 20, 0, 41)
LINE_CLOSED = (0, 10, 0, 51)

STEPS = {
    "10 11": "table text long text",
    "10 31": "2 4 2",
    "10 40": "text text 1",
}


def fault_parts(code, origin):
    words = number_bytes(code, 2) + text_bytes(codes("no"))
    return words + number_bytes(origin[0], 2) + number_bytes(origin[1], 2)


def need_step(stage, place, kind, body):
    """A Misfit for all but the method that is awaited on the way up."""
    if place != 0 or kind != METHOD or len(body) < 4:
        raise Misfit()
    if stage != method_word(body):
        raise Misfit()
    parts = read_parts(STEPS[stage], body)
    if stage == "10 11" and (parts[1] != codes("PLAIN") or parts[3] != codes("en_US")):
        raise Misfit()


def step_up(line):
    """Goes on from the step that was awaited, and now is done."""
    if line.stage == "10 11":
        line.send_method(0, 10, 30, number_bytes(8, 2) + number_bytes(131072, 4) + [0, 0])
        line.stage = "10 31"
    elif line.stage == "10 31":
        line.stage = "10 40"
    else:
        line.send_method(0, 10, 41, [0])
        line.stage = "up"


def greet(line):
    version_and_table = [0, 9, 0, 0, 0, 0]
    offers = number_bytes(5, 4) + list(codes("PLAIN")) + number_bytes(5, 4) + list(codes("en_US"))
    line.send_method(0, 10, 10, version_and_table + offers)
    line.stage = "10 11"


class House:
    """A new house has all lines closed and nothing else."""

    def __init__(self):
        self.store = Store()
        self.lines = [Line() for number in range(LINES)]

    def open_line(self, number):
        if not 0 <= number < LINES:
            return [-2]
        if self.lines[number].stage != "closed":
            return [-3]
        self.lines[number].start()
        return [0]

    def close_line(self, number):
        if not 0 <= number < LINES:
            return [-2]
        line = self.lines[number]
        if line.stage == "closed":
            return [-3]
        self.end_line(line)
        self.store.hand_out()
        return [0]

    def take_in(self, number, piece):
        if not 0 <= number < LINES:
            return [-2]
        line = self.lines[number]
        if line.stage == "closed":
            return [-3]
        line.kept.extend(piece)
        while self.take_next(line):
            self.store.hand_out()
        line.drop_used()
        return [0]

    def give_out(self, number, most):
        if not 0 <= number < LINES or not 0 <= most <= OUTPUT_AT_MOST:
            return [-2]
        row = self.lines[number].take_unsent(most)
        return [len(row)] + row

    def tell(self):
        store = self.store
        counts = [len(store.exchanges), len(store.bindings), len(store.queues)]
        return [0] + counts + [store.waiting_count(), store.takers_count()]

    def drop_channels(self, line):
        channels = list(line.channels.values())
        line.channels = {}
        for channel in channels:
            self.store.let_go(channel)

    def end_line(self, line):
        self.drop_channels(line)
        line.finish()

    def fail_line(self, line, code, origin):
        line.send_method(0, 10, 50, fault_parts(code, origin))
        self.drop_channels(line)
        line.stage = "ending"

    def fail_channel(self, channel, code, origin):
        line = channel.line
        line.channels.pop(channel.place)
        self.store.let_go(channel)
        channel.answer(20, 40, fault_parts(code, origin))
        line.shut[channel.place] = True

    def break_off(self, line):
        """The bytes aren't frames any more, so no answer to the fault is waited for."""
        line.send_method(0, 10, 50, fault_parts(501, (0, 0)))
        self.end_line(line)

    def take_next(self, line):
        """Takes the next whole thing that has come; tells whether there was one."""
        if line.stage == "closed":
            return False
        if line.stage == "fresh":
            return self.take_opening(line)
        if line.left() < 7:
            return False
        head = line.kept[line.at:line.at + 7]
        length = number_of(head[3:7])
        if length > LENGTH_AT_MOST:
            self.break_off(line)
            return True
        if line.left() < length + 8:
            return False
        body = line.kept[line.at + 7:line.at + 7 + length]
        last = line.kept[line.at + 7 + length]
        line.at = line.at + length + 8
        if last != FRAME_END:
            self.break_off(line)
        else:
            self.take_frame(line, head[0], number_of(head[1:3]), body)
        return True

    def take_opening(self, line):
        if line.left() < len(OPENING):
            return False
        came = line.kept[line.at:line.at + len(OPENING)]
        line.at = line.at + len(OPENING)
        if came == list(OPENING):
            greet(line)
        else:
            line.send(list(OPENING))
            self.end_line(line)
        return True

    def take_frame(self, line, kind, place, body):
        if line.stage == "ending":
            if kind == METHOD and place == 0 and body == list(LINE_CLOSED):
                self.end_line(line)
        elif kind == HEARTBEAT:
            if place != 0 or len(body) > 0:
                self.fail_line(line, 501, (0, 0))
        elif line.stage != "up":
            self.take_step(line, kind, place, body)
        elif place == 0:
            self.take_line_frame(line, kind, body)
        elif place in line.shut:
            if kind == METHOD and body == list(CHANNEL_CLOSED):
                line.shut.pop(place)
        elif place in line.channels:
            self.take_on_channel(line.channels[place], kind, body)
        else:
            self.take_on_none(line, kind, place, body)

    def take_step(self, line, kind, place, body):
        try:
            need_step(line.stage, place, kind, body)
        except Misfit:
            self.fail_line(line, 503, (0, 0))
        else:
            step_up(line)

    def take_line_frame(self, line, kind, body):
        if kind != METHOD:
            self.fail_line(line, 505, (0, 0))
        elif len(body) < 4:
            self.fail_line(line, 502, (0, 0))
        elif method_word(body) != "10 50":
            self.fail_line(line, 503, method_of(body))
        else:
            self.take_line_close(line, body)

    def take_line_close(self, line, body):
        try:
            read_parts("2 text 2 2", body)
        except Misfit:
            self.fail_line(line, 502, (10, 50))
        else:
            self.end_line(line)
            line.send_method(0, 10, 51, [])

    def take_on_channel(self, channel, kind, body):
        origin = origin_of(channel, kind, body)
        try:
            take_channel_frame(self.store, channel, kind, body)
        except LineFault as fault:
            self.fail_line(channel.line, fault.code, origin)
        except ChannelFault as fault:
            self.fail_channel(channel, fault.code, origin)

    def take_on_none(self, line, kind, place, body):
        if kind == METHOD and place <= CHANNELS_AT_MOST and body == list(CHANNEL_OPEN):
            line.channels[place] = Channel(line, place)
            line.send_method(place, 20, 11, [0, 0, 0, 0])
        else:
            self.fail_line(line, 504, (0, 0))
