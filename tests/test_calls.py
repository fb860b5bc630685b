"""Promises 1, 3 and 4 as calls, and the interface: open, close, output, told, answers."""

import unittest

from handhouse.desk import answers
from tests.helper import (
    CLOSE_LINE, GREETING, OPENING, START, START_OK, TUNE, WAY_UP, Talk, ack, bind, cancel, channel_open,
    channel_opened, consume, declare_exchange, declare_queue, delivered, get, got, limit, line_fault, method, post,
    recover, reject, split_answers, up,
)

WRONG_LINES = (-2147483648, -1, 8, 9, 2147483647)


class Answers(unittest.TestCase):
    def test_empty_list(self):
        self.assertEqual(answers([]), [])

    def test_calls_one_behind_another(self):
        calls = [4, 0, 3, 0, 3, 2, 3, 2, 65, 77, 3, 3, 10, 1, 3, 1, 3, 3, 9, 5, 4]
        told = [6, 0, 0, 0, 0, 0, 0]
        self.assertEqual(answers(calls), told + [1, 0, 1, -3, 1, 0, 1, 0, 1, 0, 1, -3, 1, -2] + told)

    def test_output_tells_its_count_and_its_bytes(self):
        calls = [0, 0, 2, 0, 8] + OPENING + [3, 0, 65536]
        self.assertEqual(answers(calls), [1, 0, 1, 0, 1 + len(START), len(START)] + START)

    def test_calls_are_as_they_were(self):
        calls = up().say(declare_queue(1, "q"), post(1, "", "q", "abc"), get(1, "q")).add(3, 0, 65536, 4, 1, 0).calls
        before = list(calls)
        answers(calls)
        self.assertEqual(calls, before)

    def test_a_list_that_is_given_back_is_new(self):
        calls = [4]
        first = answers(calls)
        first.append(5)
        self.assertEqual(answers(calls), [6, 0, 0, 0, 0, 0, 0])

    def test_second_time_as_the_first(self):
        talk = up().say(declare_exchange(1, "x"), declare_queue(1, ""), bind(1, "amq.gen-1", "x"),
                        consume(1, "amq.gen-1"), post(1, "x", "", "abc"), get(1, "amq.gen-1"))
        talk.add(3, 0, 65536, 4)
        first = answers(talk.calls)
        self.assertEqual(answers(talk.calls), first)
        self.assertEqual(answers([4]), [6, 0, 0, 0, 0, 0, 0])

    def test_all_are_whole_numbers_in_a_list(self):
        row = answers(up().say(declare_queue(1, "q"), get(1, "q")).add(3, 0, 9, 4, 0, 0).calls)
        self.assertIs(type(row), list)
        self.assertEqual({type(value) for value in row}, {int})

    def test_an_input_of_no_bytes(self):
        self.assertEqual(answers([0, 1, 2, 1, 0, 2, 2, 0, 2, 8, 0]), [1, 0, 1, 0, 1, -3, 1, -2])

    def test_many_calls(self):
        self.assertEqual(answers([4] * 300), [6, 0, 0, 0, 0, 0, 0] * 300)

    def test_the_longest_list(self):
        size = 30000 - 2 - 3
        row = WAY_UP + [1] * (size - len(WAY_UP))
        parts = split_answers(answers([0, 0, 2, 0, size] + row))
        self.assertEqual(parts, [[0], [0]])


class OpenAndClose(unittest.TestCase):
    def test_each_line(self):
        for line in range(8):
            self.assertEqual(answers([0, line, 0, line, 1, line, 1, line]), [1, 0, 1, -3, 1, 0, 1, -3])

    def test_wrong_lines(self):
        for line in WRONG_LINES:
            self.assertEqual(answers([0, line, 1, line, 2, line, 1, 7, 3, line, 5]), [1, -2] * 4)

    def test_lines_are_apart(self):
        talk = Talk().open(0).open(1).say(OPENING, line=1)
        self.assertEqual(talk.hear(0), [])
        self.assertEqual(talk.hear(1), START)
        self.assertEqual(talk.ask(2, 2, 1, 65), [-3])

    def test_input_of_a_closed_line(self):
        self.assertEqual(answers([2, 0, 1, 65]), [1, -3])
        self.assertEqual(answers([0, 0, 1, 0, 2, 0, 1, 65]), [1, 0, 1, 0, 1, -3])

    def test_refusals_leave_the_house_as_it_was(self):
        talk = up().say(declare_queue(1, "q"), post(1, "", "q", "abc"), consume(1, "q", "t"))
        plain = Talk().add(*talk.calls)
        talk.add(0, 0, 0, 8, 1, 1, 1, -1, 2, 1, 2, 3, 4, 2, 8, 1, 5, 3, 0, -1, 3, 0, 65537, 3, 8, 1)
        self.assertEqual(talk.told(), plain.told())
        self.assertEqual(talk.hear(), plain.hear())
        self.assertEqual(talk.reply(ack(1, 1), post(1, "", "q", "de")), delivered(1, "t", 2, "", "q", "de"))

    def test_what_waits_is_gone_when_opened(self):
        talk = Talk().open().say(WAY_UP).close()
        talk.open()
        self.assertEqual(talk.hear(), [])
        self.assertEqual(talk.reply(OPENING), START)

    def test_a_refused_open_keeps_what_waits(self):
        talk = Talk().open().say(OPENING).open()
        self.assertEqual(talk.hear(), START)

    def test_what_came_in_part_is_gone_when_closed(self):
        talk = Talk().open().say(OPENING[:5]).close().open().say(OPENING)
        self.assertEqual(talk.hear(), START)
        talk = Talk().open().say(OPENING, START_OK[:9]).close().open().say(OPENING, START_OK)
        self.assertEqual(talk.hear(), START + TUNE)

    def test_closing_lets_the_channels_go(self):
        talk = up().say(declare_queue(1, "q"), post(1, "", "q", "abc"), consume(1, "q", "t"))
        self.assertEqual(talk.told(), [0, 0, 1, 0, 1])
        self.assertEqual(talk.ask(1, 0), [0])
        self.assertEqual(talk.told(), [0, 0, 1, 1, 0])

    def test_closing_hands_on_to_others(self):
        talk = up().up(1).say(declare_queue(1, "q"), post(1, "", "q", "abc"), consume(1, "q", "t"))
        talk.say(consume(1, "q", "u"), line=1).add(3, 1, 65536).close(0)
        self.assertEqual(talk.hear(1), delivered(1, "u", 1, "", "q", "abc", before=1))

    def test_a_line_opened_anew_has_no_channels(self):
        talk = up().close().up(0, channels=())
        self.assertEqual(talk.reply(declare_queue(1, "q")), line_fault(504))

    def test_a_line_opened_anew_has_no_shut_channels(self):
        talk = up().say(get(1, "none")).close().up(0, channels=())
        self.assertEqual(talk.reply(channel_open(1)), channel_opened(1))

    def test_an_ending_line_is_not_closed(self):
        talk = up().say(method(0, 10, 99))
        self.assertEqual(talk.ask(0, 0), [-3])
        self.assertEqual(talk.ask(2, 0, 1, 1), [0])
        self.assertEqual(talk.ask(1, 0), [0])
        self.assertEqual(talk.ask(0, 0), [0])
        self.assertEqual(talk.reply(OPENING), START)


class Output(unittest.TestCase):
    def test_wrong_most(self):
        talk = Talk().open().say(OPENING)
        for most in (-2147483648, -1, 65537, 2147483647):
            self.assertEqual(talk.ask(3, 0, most), [-2])
        self.assertEqual(talk.hear(), START)

    def test_in_parts(self):
        talk = Talk().open().say(WAY_UP)
        self.assertEqual(talk.ask(3, 0, 0), [0])
        self.assertEqual(talk.hear(most=1), GREETING[:1])
        self.assertEqual(talk.hear(most=20), GREETING[1:21])
        talk.say(channel_open(3))
        self.assertEqual(talk.hear(), GREETING[21:] + channel_opened(3))
        self.assertEqual(talk.ask(3, 0, 65536), [0])

    def test_of_a_line_never_opened(self):
        self.assertEqual(answers([3, 5, 65536]), [1, 0])

    def test_of_a_closed_line(self):
        talk = Talk().open().say(WAY_UP).close()
        self.assertEqual(talk.hear(most=7), GREETING[:7])
        self.assertEqual(talk.hear(), GREETING[7:])

    def test_just_most(self):
        talk = Talk().open().say(OPENING)
        self.assertEqual(talk.hear(most=len(START)), START)
        self.assertEqual(talk.hear(), [])


def drain(talk, line=0):
    row = []
    part = talk.hear(line)
    while part:
        row.extend(part)
        part = talk.hear(line)
    return row


def rows_that_fill(left):
    """What to say on a new channel 1 till all but so many of the 524288 bytes wait."""
    goal = 524288 - left
    rows = []
    number = 0
    waits = 0
    for queue, size in (("q", 8000), ("p", 500)):
        rows += [declare_queue(1, queue, 16), post(1, "", queue, [7] * size)]
        once = len(got(1, 1, "", queue, 0, [7] * size))
        while waits + once + 13 <= goal:
            number += 1
            rows += [get(1, queue), reject(1, number, 1)]
            waits += once
    while waits < goal:
        rest = goal - waits
        size = rest - 13 if rest <= 268 else min(255, rest - 26)
        rows.append(cancel(1, "a" * size))
        waits += 13 + size
    return rows


class WaitingAtMost(unittest.TestCase):
    """524288 bytes wait on a line; what doesn't fit whole is lost."""

    def test_a_method_and_its_content_are_lost_together(self):
        letters = [7] * 20000
        first = delivered(1, "t", 1, "", "q", letters)
        recovered = method(1, 60, 111)
        once = len(delivered(1, "t", 2, "", "q", letters, before=1)) + len(recovered)
        whole = (524288 - len(first)) // once
        left = 524288 - len(first) - whole * once
        # What is left takes methods, but not 20000 bytes of content.
        self.assertGreater(left, 3 * len(recovered))
        self.assertLess(left, 20000)
        talk = up().say(declare_queue(1, "q", 16), consume(1, "q", "t", 8), post(1, "", "q", letters))
        talk.say(*[recover(1) for time in range(whole + 3)])
        expected = list(first)
        for number in range(2, whole + 2):
            expected += recovered + delivered(1, "t", number, "", "q", letters, before=1)
        expected += recovered * 3
        self.assertEqual(drain(talk), expected)
        # It was handed out all the same, under a number of its own.
        self.assertEqual(talk.reply(ack(1, whole + 4)), [])
        self.assertEqual(talk.told(), [0, 0, 1, 0, 1])

    def test_a_frame_that_just_fits(self):
        told = method(1, 60, 11)
        self.assertEqual(len(told), 12)
        for left, fits in ((13, True), (12, True), (11, False), (0, False)):
            row = drain(up().say(*rows_that_fill(left), limit(1, 5)))
            self.assertEqual(len(row), 524288 - left + (12 if fits else 0))
            self.assertEqual(row[-12:] == told, fits)

    def test_content_that_just_fits(self):
        for letters in ("abc", "a", ""):
            size = len(got(1, 1, "", "r", 0, letters))
            for left, fits in ((size + 1, True), (size, True), (size - 1, False), (size - 11, False)):
                talk = up().say(*rows_that_fill(left), declare_queue(1, "r", 16), post(1, "", "r", letters))
                talk.say(get(1, "r"))
                self.assertEqual(len(drain(talk)), 524288 - left + (size if fits else 0))
                self.assertEqual(talk.told()[3], 2)

    def test_a_smaller_one_still_fits_behind_one_that_is_lost(self):
        talk = up().say(*rows_that_fill(12), declare_queue(1, "another"), limit(1, 5))
        row = drain(talk)
        self.assertEqual(len(row), 524288)
        self.assertEqual(row[-12:], method(1, 60, 11))
        self.assertEqual(talk.told()[2], 3)

    def test_room_comes_back_with_output(self):
        talk = up().say(*rows_that_fill(0), limit(1, 5)).add(3, 0, 12).say(limit(1, 6))
        row = drain(talk)
        self.assertEqual(len(row), 524288)
        self.assertEqual(row[-12:], method(1, 60, 11))

    def test_the_last_method_is_lost_too(self):
        talk = up().say(*rows_that_fill(5), CLOSE_LINE)
        self.assertEqual(len(drain(talk)), 524288 - 5)
        self.assertEqual(talk.ask(2, 0, 0), [-3])

    def test_each_line_has_its_own(self):
        talk = up().say(*rows_that_fill(0)).up(1)
        self.assertEqual(talk.reply(limit(1, 5), line=1), method(1, 60, 11))


class Told(unittest.TestCase):
    def test_at_first(self):
        self.assertEqual(Talk().told(), [0, 0, 0, 0, 0])
        self.assertEqual(up().told(), [0, 0, 0, 0, 0])

    def test_takes_nothing_from_the_house(self):
        talk = up().say(declare_queue(1, "q"), post(1, "", "q", "a"))
        self.assertEqual([talk.told() for time in range(3)], [[0, 0, 1, 1, 0]] * 3)


if __name__ == "__main__":
    unittest.main()
