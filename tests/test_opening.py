"""A line from its eight bytes to being up, and each fault on the way."""

import unittest

from tests.helper import (
    CLOSE_LINE, GREETING, LINE_CLOSED, LINE_OPEN, LINE_OPENED, OPENING, START, START_OK, TABLE, TUNE, TUNE_OK, WAY_UP,
    Talk, channel_open, channel_opened, frame, joined, line_fault, method, num, raw, text,
)

STEPS = (START_OK, TUNE_OK, LINE_OPEN)


def opened(*rows):
    return Talk().open().say(*rows)


class EightBytes(unittest.TestCase):
    def test_right(self):
        self.assertEqual(opened(OPENING).hear(), START)

    def test_the_very_bytes_of_the_greeting(self):
        body = [0, 10, 0, 10, 0, 9, 0, 0, 0, 0, 0, 0, 0, 5] + raw("PLAIN") + [0, 0, 0, 5] + raw("en_US")
        self.assertEqual(opened(OPENING).hear(), [1, 0, 0, 0, 0, 0, len(body)] + body + [206])

    def test_each_byte_wrong(self):
        for place in range(8):
            for change in (1, 255):
                wrong = list(OPENING)
                wrong[place] = (wrong[place] + change) % 256
                talk = opened(wrong)
                self.assertEqual(talk.ask(2, 0, 1, 0), [-3])
                self.assertEqual(talk.hear(), OPENING)

    def test_wrong_ones_are_known_when_all_eight_have_come(self):
        talk = opened([1, 2, 3, 4, 5, 6, 7])
        self.assertEqual(talk.hear(), [])
        self.assertEqual(talk.ask(2, 0, 1, 8), [0])
        self.assertEqual(talk.hear(), OPENING)
        self.assertEqual(talk.ask(0, 0), [0])

    def test_what_comes_behind_wrong_ones_is_not_looked_at(self):
        talk = opened([0] * 8, OPENING)
        self.assertEqual(talk.hear(), OPENING)
        self.assertEqual(talk.open().hear(), [])
        self.assertEqual(talk.reply(OPENING), START)

    def test_a_frame_in_their_place(self):
        self.assertEqual(opened(frame(8, 0, [])).hear(), OPENING)
        self.assertEqual(opened([1, 0, 0, 255, 255, 255, 255, 0]).hear(), OPENING)


class WayUp(unittest.TestCase):
    def test_step_by_step(self):
        talk = Talk().open()
        self.assertEqual(talk.reply(OPENING), START)
        self.assertEqual(talk.reply(START_OK), TUNE)
        self.assertEqual(talk.reply(TUNE_OK), [])
        self.assertEqual(talk.reply(LINE_OPEN), LINE_OPENED)
        self.assertEqual(talk.reply(channel_open(1)), channel_opened(1))

    def test_the_very_bytes_of_the_answers(self):
        self.assertEqual(TUNE, [1, 0, 0, 0, 0, 0, 12, 0, 10, 0, 30, 0, 8, 0, 2, 0, 0, 0, 0, 206])
        self.assertEqual(LINE_OPENED, [1, 0, 0, 0, 0, 0, 5, 0, 10, 0, 41, 0, 206])
        self.assertEqual(opened(WAY_UP).hear(), START + TUNE + LINE_OPENED)

    def test_other_values_that_are_taken(self):
        for answer in ([], [5] * 300):
            start = method(0, 10, 11, TABLE, text("PLAIN"), num(len(answer), 4), answer, text("en_US"))
            tune = method(0, 10, 31, num(65535, 2), num(1, 4), num(9, 2))
            up = method(0, 10, 40, text([200] * 255), text("x"), [255])
            self.assertEqual(opened(OPENING, start, tune, up).hear(), GREETING)

    def test_cut_in_two_anywhere(self):
        row = WAY_UP + channel_open(2)
        for cut in range(len(row) + 1):
            self.assertEqual(opened(row[:cut]).say(row[cut:]).hear(), GREETING + channel_opened(2))

    def test_byte_by_byte(self):
        row = WAY_UP + channel_open(2)
        talk = Talk().open()
        for byte in row:
            talk.say([byte])
        self.assertEqual(talk.hear(), GREETING + channel_opened(2))

    def test_an_answer_comes_with_the_last_byte(self):
        talk = opened(OPENING[:7])
        self.assertEqual(talk.hear(), [])
        self.assertEqual(talk.reply(OPENING[7:], START_OK[:-1]), START)
        self.assertEqual(talk.reply(START_OK[-1:]), TUNE)


class FaultsOnTheWay(unittest.TestCase):
    def check(self, done, row, code=503):
        """The line has done so many steps; then this row ends it, with 0 0."""
        talk = opened(OPENING, *STEPS[:done])
        before = talk.hear()
        self.assertEqual(before, (START + TUNE if done else START))
        self.assertEqual(talk.reply(row), line_fault(code))
        # It's ending: the right step doesn't count any more, 10 51 does.
        self.assertEqual(talk.reply(*STEPS[done:]), [])
        self.assertEqual(talk.ask(2, 0, 0), [0])
        talk.say(LINE_CLOSED)
        self.assertEqual(talk.ask(2, 0, 0), [-3])

    def test_another_step(self):
        for done in range(3):
            for other in range(3):
                if other != done:
                    self.check(done, STEPS[other])

    def test_another_channel(self):
        for done in range(3):
            step = list(STEPS[done])
            step[2] = 1
            self.check(done, step)
            step[1], step[2] = 1, 0
            self.check(done, step)

    def test_another_kind(self):
        for done in range(3):
            for kind in (0, 2, 3, 4, 255):
                self.check(done, [kind] + STEPS[done][1:])

    def test_other_methods(self):
        for done in range(3):
            for row in (CLOSE_LINE, LINE_CLOSED, channel_open(1), method(0, 20, 10, text("")), method(0, 10, 10)):
                self.check(done, row)

    def test_what_a_step_takes_behind_another_method(self):
        for done in range(3):
            for place, change in ((0, 1), (1, 1), (1, 10), (2, 1), (3, 1), (3, 10)):
                body = STEPS[done][7:-1]
                body[place] += change
                self.check(done, frame(1, 0, body))

    def test_too_short_for_a_method(self):
        for done in range(3):
            for size in range(4):
                self.check(done, frame(1, 0, [0, 10, 0, 11][:size]))

    def test_what_a_step_takes_and_one_byte_more_or_less(self):
        for done in range(3):
            body = STEPS[done][7:-1]
            for size in range(4, len(body)):
                self.check(done, frame(1, 0, body[:size]))
            self.check(done, frame(1, 0, body + [0]))

    def test_start_ok_that_is_not_so(self):
        mechanism, answer, tongue = text("PLAIN"), num(1, 4) + [0], text("en_US")
        self.check(0, method(0, 10, 11, num(1, 4), [0], mechanism, answer, tongue))
        self.check(0, method(0, 10, 11, num(1, 4), mechanism, answer, tongue))
        self.check(0, method(0, 10, 11, num(0, 4), text("PLAIM"), answer, tongue))
        self.check(0, method(0, 10, 11, num(0, 4), text("plain"), answer, tongue))
        self.check(0, method(0, 10, 11, num(0, 4), text(""), answer, tongue))
        self.check(0, method(0, 10, 11, TABLE, mechanism, num(2, 4) + [0], tongue))
        self.check(0, method(0, 10, 11, TABLE, mechanism, answer, text("en_GB")))
        self.check(0, method(0, 10, 11, TABLE, mechanism, answer, text("")))

    def test_kind_8(self):
        for done in range(3):
            self.check(done, frame(8, 0, [0]), 501)
            self.check(done, frame(8, 1, []), 501)
            talk = opened(OPENING, *STEPS[:done], frame(8, 0, []), *STEPS[done:])
            self.assertEqual(talk.hear(), GREETING)

    def test_a_length_above_131064(self):
        for done in range(3):
            talk = opened(OPENING, *STEPS[:done])
            before = talk.hear()
            self.assertEqual(before, START + TUNE if done else START)
            self.assertEqual(talk.reply([1, 0, 0] + num(131065, 4)[:3]), [])
            self.assertEqual(talk.reply(num(131065, 4)[3:]), line_fault(501))
            self.assertEqual(talk.ask(2, 0, 0), [-3])

    def test_another_byte_at_the_end(self):
        for done in range(3):
            for end in (0xCD, 0xCF, 0):
                talk = opened(OPENING, *STEPS[:done])
                talk.hear()
                self.assertEqual(talk.reply(STEPS[done][:-1], [end]), line_fault(501))
                self.assertEqual(talk.ask(2, 0, 0), [-3])

    def test_cut_anywhere_with_a_fault(self):
        row = joined(OPENING, START_OK, LINE_OPEN, TUNE_OK, LINE_CLOSED, [1, 2])
        for cut in range(len(row) + 1):
            talk = opened(row[:cut]).say(row[cut:])
            self.assertEqual(talk.hear(), START + TUNE + line_fault(503))
            self.assertEqual(talk.ask(2, 0, 0), [-3])


if __name__ == "__main__":
    unittest.main()
