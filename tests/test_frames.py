"""Frames on a line that's up: lengths, ends, kinds, a line that's ending, a channel that's shut."""

import unittest

from tests.helper import (
    CLOSE_LINE, LINE_CLOSED, OPENING, START, ack, channel_close, channel_closed, channel_fault, channel_open,
    channel_opened, consume, declare_queue, delivered, frame, get, got, header, line_fault, method, num, post, publish,
    queue_declared, text, up,
)


def is_closed(talk, line=0):
    return talk.ask(2, line, 0) == [-3]


class LengthAndEnd(unittest.TestCase):
    def test_the_longest_length_is_waited_for(self):
        talk = up()
        self.assertEqual(talk.reply([1, 0, 1] + num(131064, 4)), [])
        self.assertEqual(talk.reply([0] * 2000), [])
        self.assertFalse(is_closed(talk))

    def test_a_longer_one_is_found_with_seven_bytes(self):
        for length in (131065, 131072, 2 ** 24, 2 ** 32 - 1):
            for kind in (1, 2, 3, 8, 77):
                talk = up()
                self.assertEqual(talk.reply([kind, 0, 0] + num(length, 4)[:3]), [])
                self.assertFalse(is_closed(talk))
                self.assertEqual(talk.reply(num(length, 4)[3:]), line_fault(501))
                self.assertTrue(is_closed(talk))

    def test_another_byte_at_the_end(self):
        for end in (0, 0xCD, 0xCF, 0xEC, 255):
            for row in (frame(1, 0, CLOSE_LINE[7:-1], end), frame(8, 0, [], end), frame(1, 3, [], end)):
                talk = up().say(row[:-1])
                self.assertEqual(talk.hear(), [])
                self.assertEqual(talk.reply(row[-1:]), line_fault(501))
                self.assertTrue(is_closed(talk))

    def test_what_comes_behind_is_not_looked_at(self):
        talk = up()
        self.assertEqual(talk.reply(frame(8, 0, [], 0), channel_open(2), OPENING), line_fault(501))
        self.assertEqual(talk.open().reply(OPENING), START)

    def test_channels_go(self):
        for wrong in (frame(8, 0, [], 0), [1, 0, 0, 0, 2, 0, 0]):
            talk = up().up(1).say(declare_queue(1, "q"), post(1, "", "q", "a"), consume(1, "q", "t"))
            talk.say(consume(1, "q", "u"), line=1).add(3, 0, 65536, 3, 1, 65536)
            self.assertEqual(talk.reply(wrong), line_fault(501))
            self.assertEqual(talk.hear(1), delivered(1, "u", 1, "", "q", "a", before=1))
            self.assertEqual(talk.told(), [0, 0, 1, 0, 1])

    def test_when_ending_too(self):
        for wrong in (frame(8, 0, [], 0), [1, 0, 0, 0, 2, 0, 0]):
            talk = up().say(method(0, 10, 99)).add(3, 0, 65536)
            self.assertEqual(talk.reply(wrong), line_fault(501))
            self.assertTrue(is_closed(talk))

    def test_on_a_shut_channel_too(self):
        talk = up().say(get(1, "none")).add(3, 0, 65536)
        self.assertEqual(talk.reply(frame(1, 1, [], 0)), line_fault(501))
        self.assertTrue(is_closed(talk))

    def test_a_frame_of_frames(self):
        # A frame's bytes may be anything, an end and another frame among them.
        inner = channel_open(3)
        talk = up().say(declare_queue(1, "q", 16), post(1, "", "q", inner), get(1, "q"))
        self.assertEqual(talk.hear(), got(1, 1, "", "q", 0, inner))


class Kind8(unittest.TestCase):
    def test_nothing(self):
        self.assertEqual(up().reply(frame(8, 0, []), frame(8, 0, []), channel_open(2)), channel_opened(2))

    def test_not_empty(self):
        self.assertEqual(up().reply(frame(8, 0, [0])), line_fault(501))

    def test_on_another_channel(self):
        for channel in (1, 2, 256, 65535):
            self.assertEqual(up().reply(frame(8, channel, [])), line_fault(501))

    def test_amid_content(self):
        row = publish(1, "", "q") + frame(8, 0, []) + header(1, 1) + frame(8, 0, []) + frame(3, 1, [65])
        talk = up().say(declare_queue(1, "q", 16), row)
        self.assertEqual(talk.hear(), [])
        self.assertEqual(talk.told(), [0, 0, 1, 1, 0])
        self.assertEqual(up().reply(publish(1, "", "q"), frame(8, 1, [])), line_fault(501))

    def test_on_a_shut_channel(self):
        self.assertEqual(up().reply(get(1, "none"), frame(8, 1, [])),
                         channel_fault(1, 404, 60, 70) + line_fault(501))

    def test_when_ending(self):
        talk = up().say(method(0, 10, 99)).add(3, 0, 65536)
        self.assertEqual(talk.reply(frame(8, 0, []), frame(8, 0, [1]), frame(8, 5, [])), [])
        self.assertFalse(is_closed(talk))


class ChannelZero(unittest.TestCase):
    def test_not_a_method(self):
        for kind in (0, 2, 3, 4, 255):
            self.assertEqual(up().reply(frame(kind, 0, CLOSE_LINE[7:-1])), line_fault(505))
            self.assertEqual(up().reply(frame(kind, 0, [])), line_fault(505))

    def test_less_than_four_bytes(self):
        for size in range(4):
            self.assertEqual(up().reply(frame(1, 0, [0, 10, 0, 50][:size])), line_fault(502))

    def test_closing(self):
        talk = up()
        self.assertEqual(talk.reply(CLOSE_LINE, channel_open(2)), LINE_CLOSED)
        self.assertTrue(is_closed(talk))

    def test_closing_with_other_values(self):
        row = method(0, 10, 50, num(65535, 2), text([0] * 255), num(1, 2), num(2, 2))
        self.assertEqual(up().reply(row), LINE_CLOSED)

    def test_closing_lets_the_channels_go(self):
        talk = up().up(1).say(declare_queue(1, "q"), post(1, "", "q", "a"), get(1, "q"), consume(1, "q", "t"))
        talk.say(consume(1, "q", "u"), line=1).add(3, 0, 65536, 3, 1, 65536)
        self.assertEqual(talk.reply(CLOSE_LINE), LINE_CLOSED)
        self.assertEqual(talk.hear(1), delivered(1, "u", 1, "", "q", "a", before=1))
        self.assertEqual(talk.told(), [0, 0, 1, 0, 1])

    def test_closing_with_what_is_not_so(self):
        body = CLOSE_LINE[7:-1]
        for size in range(4, len(body)):
            self.assertEqual(up().reply(frame(1, 0, body[:size])), line_fault(502, 10, 50))
        talk = up()
        self.assertEqual(talk.reply(frame(1, 0, body + [0])), line_fault(502, 10, 50))
        self.assertFalse(is_closed(talk))

    def test_other_methods(self):
        for group, number in ((10, 51), (10, 11), (10, 40), (20, 10), (20, 41), (60, 40), (0, 0), (65535, 65535)):
            self.assertEqual(up().reply(method(0, group, number)), line_fault(503, group, number))
            self.assertEqual(up().reply(method(0, group, number, [1, 2, 3])), line_fault(503, group, number))


class ChannelsThatAreNotThere(unittest.TestCase):
    def test_one_to_eight(self):
        for channel in range(1, 9):
            self.assertEqual(up(channels=()).reply(channel_open(channel)), channel_opened(channel))

    def test_all_eight(self):
        rows = [channel_open(channel) for channel in range(8, 0, -1)]
        expected = sum([channel_opened(channel) for channel in range(8, 0, -1)], [])
        self.assertEqual(up(channels=()).reply(*rows), expected)

    def test_others(self):
        for channel in (9, 10, 255, 256, 257, 65535):
            self.assertEqual(up(channels=()).reply(channel_open(channel)), line_fault(504))

    def test_not_opened_first(self):
        for row in (declare_queue(2, "q"), channel_close(2), channel_closed(2), frame(1, 2, []), frame(2, 2, []),
                    frame(3, 2, [1]), frame(9, 2, [0, 20, 0, 10, 0]), publish(2, "", "q")):
            self.assertEqual(up().reply(row), line_fault(504))

    def test_opened_with_what_is_not_so(self):
        for parts in ([], [1, 65], [0, 0], [1]):
            self.assertEqual(up().reply(method(2, 20, 10, parts)), line_fault(504))

    def test_opened_twice(self):
        self.assertEqual(up().reply(channel_open(1)), line_fault(540, 20, 10))

    def test_each_line_has_its_own(self):
        talk = up().up(1, channels=(2,))
        self.assertEqual(talk.reply(declare_queue(1, "q"), line=1), line_fault(504))
        self.assertEqual(talk.reply(declare_queue(1, "q")), queue_declared(1, "q"))


class Ending(unittest.TestCase):
    def ending(self):
        talk = up().say(declare_queue(1, "q"), post(1, "", "q", "a"), consume(1, "q", "t"))
        return talk.say(method(0, 10, 99)).add(3, 0, 65536)

    def test_channels_go(self):
        self.assertEqual(self.ending().told(), [0, 0, 1, 1, 0])

    def test_nothing_counts(self):
        talk = self.ending()
        for row in (declare_queue(1, "p"), channel_open(1), channel_open(2), CLOSE_LINE, method(0, 10, 98),
                    frame(2, 0, []), frame(1, 0, []), ack(1, 1), frame(8, 0, [1]), OPENING[:0]):
            self.assertEqual(talk.reply(row), [])
        self.assertFalse(is_closed(talk))
        self.assertEqual(talk.told(), [0, 0, 1, 1, 0])

    def test_only_its_own_close_counts(self):
        talk = self.ending()
        closed = LINE_CLOSED[7:-1]
        for row in (frame(1, 1, closed), frame(1, 256, closed), frame(2, 0, closed), frame(1, 0, closed + [0]),
                    frame(1, 0, closed[:3]), frame(1, 0, [0, 20, 0, 41])):
            self.assertEqual(talk.reply(row), [])
            self.assertFalse(is_closed(talk))
        self.assertEqual(talk.reply(LINE_CLOSED, OPENING), [])
        self.assertTrue(is_closed(talk))

    def test_opened_again(self):
        talk = self.ending().say(LINE_CLOSED)
        talk.up(0)
        self.assertEqual(talk.reply(get(1, "q")), got(1, 1, "", "q", 0, "a", before=1))

    def test_hands_on_to_others(self):
        talk = up().up(1).say(declare_queue(1, "q"), post(1, "", "q", "a"), consume(1, "q", "t"))
        talk.say(consume(1, "q", "u"), line=1).add(3, 1, 65536).say(method(0, 10, 99))
        self.assertEqual(talk.hear(1), delivered(1, "u", 1, "", "q", "a", before=1))

    def test_the_other_lines_go_on(self):
        talk = up().up(1).say(method(0, 10, 99))
        self.assertEqual(talk.reply(declare_queue(1, "q"), line=1), queue_declared(1, "q"))


class Shut(unittest.TestCase):
    def shut(self):
        return up(channels=(1, 2)).say(get(1, "none")).add(3, 0, 65536)

    def test_the_fault(self):
        self.assertEqual(up().reply(get(1, "none")), channel_fault(1, 404, 60, 70))
        self.assertEqual(channel_fault(1, 404, 60, 70),
                         [1, 0, 1, 0, 0, 0, 13, 0, 20, 0, 40, 1, 148, 2, 110, 111, 0, 60, 0, 70, 206])

    def test_nothing_is_looked_at(self):
        talk = self.shut()
        closed = [0, 20, 0, 41]
        for row in (declare_queue(1, "q"), channel_open(1), channel_close(1), frame(1, 1, []), frame(2, 1, []),
                    frame(3, 1, [1]), method(1, 99, 99), frame(1, 1, closed + [0]), frame(2, 1, closed),
                    frame(1, 1, closed[:3]), method(1, 10, 51)):
            self.assertEqual(talk.reply(row), [])
        self.assertEqual(talk.told(), [0, 0, 0, 0, 0])

    def test_till_it_is_closed(self):
        talk = self.shut()
        self.assertEqual(talk.reply(channel_closed(1)), [])
        self.assertEqual(talk.reply(channel_open(1)), channel_opened(1))
        self.assertEqual(talk.reply(declare_queue(1, "q")), queue_declared(1, "q"))

    def test_closed_and_used_without_being_opened(self):
        self.assertEqual(self.shut().reply(channel_closed(1), channel_closed(1)), line_fault(504))

    def test_the_other_channels_go_on(self):
        self.assertEqual(self.shut().reply(declare_queue(2, "q")), queue_declared(2, "q"))
        self.assertEqual(self.shut().reply(channel_closed(2)), line_fault(503, 20, 41))

    def test_the_line_can_be_closed(self):
        self.assertEqual(self.shut().reply(CLOSE_LINE), LINE_CLOSED)

    def test_takers_and_what_was_handed_out_go_back(self):
        talk = up().say(declare_queue(1, "q"), post(1, "", "q", "a"), consume(1, "q", "t"), get(1, "none"))
        self.assertEqual(talk.told(), [0, 0, 1, 1, 0])
        talk.add(3, 0, 65536)
        row = talk.reply(channel_closed(1), channel_open(1), get(1, "q"))
        self.assertEqual(row, channel_opened(1) + got(1, 1, "", "q", 0, "a", before=1))


if __name__ == "__main__":
    unittest.main()
