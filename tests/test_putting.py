"""60 40: content, where a message comes to, what is returned, and the room."""

import itertools
import unittest

from handhouse.house import House
from tests.helper import (
    WAY_UP, ack, bind, channel_close, channel_closed, channel_fault, channel_open, channel_opened, consume,
    content, declare_exchange, declare_queue, delete_exchange, delete_queue, frame, get, got, got_none,
    header, line_fault, method, num, post, publish, purge, queue_declared, raw, recover, reject, returned, unbind, up,
)


def ready():
    return up().say(declare_queue(1, "q", 16))


class Content(unittest.TestCase):
    def test_in_one_frame(self):
        talk = ready()
        self.assertEqual(talk.reply(post(1, "", "q", "hello")), [])
        self.assertEqual(talk.told(), [0, 0, 1, 1, 0])
        self.assertEqual(talk.reply(get(1, "q")), got(1, 1, "", "q", 0, "hello"))

    def test_the_very_bytes_that_are_sent(self):
        told = [1, 0, 1, 0, 0, 0, 20, 0, 60, 0, 71, 0, 0, 0, 0, 0, 0, 0, 1, 0, 0, 1, 113, 0, 0, 0, 0, 206]
        head = [2, 0, 1, 0, 0, 0, 14, 0, 60, 0, 0, 0, 0, 0, 0, 0, 0, 0, 2, 0, 0, 206]
        body = [3, 0, 1, 0, 0, 0, 2, 104, 105, 206]
        self.assertEqual(ready().reply(post(1, "", "q", "hi"), get(1, "q")), told + head + body)

    def test_in_none(self):
        talk = ready().say(publish(1, "", "q"), header(1, 0))
        self.assertEqual(talk.told(), [0, 0, 1, 1, 0])
        self.assertEqual(talk.reply(get(1, "q")), got(1, 1, "", "q", 0, ""))

    def test_in_several(self):
        rows = [frame(3, 1, raw(part)) for part in ("he", "", "l", "", "lo")]
        talk = ready().say(publish(1, "", "q"), header(1, 5), *rows[:-1])
        self.assertEqual(talk.told(), [0, 0, 1, 0, 0])
        talk.say(rows[-1])
        self.assertEqual(talk.told(), [0, 0, 1, 1, 0])
        self.assertEqual(talk.reply(get(1, "q")), got(1, 1, "", "q", 0, "hello"))

    def test_it_is_done_with_its_last_byte(self):
        self.assertEqual(ready().reply(post(1, "", "q", "a"), frame(3, 1, [])), line_fault(505))
        self.assertEqual(ready().reply(post(1, "", "q", ""), frame(3, 1, [])), line_fault(505))

    def test_more_than_was_told(self):
        for parts in (([1, 2, 3],), ([1], [2, 3]), ([], [1], [], [7] * 300), ([7] * 9000,)):
            talk = ready()
            rows = [frame(3, 1, part) for part in parts]
            self.assertEqual(talk.reply(publish(1, "", "q"), header(1, 2), *rows), line_fault(501, 60, 40))
            self.assertEqual(talk.told(), [0, 0, 1, 0, 0])

    def test_not_the_kind_2(self):
        for row in (frame(3, 1, [1]), frame(1, 1, []), declare_queue(1, "p"), channel_close(1), frame(0, 1, []),
                    frame(3, 1, header(1, 0)[7:-1]), publish(1, "", "q")):
            talk = ready()
            self.assertEqual(talk.reply(publish(1, "", "q"), row), line_fault(505, 60, 40))
            self.assertEqual(talk.told(), [0, 0, 1, 0, 0])

    def test_not_the_kind_3(self):
        for row in (header(1, 1), frame(1, 1, []), declare_queue(1, "p"), channel_close(1), frame(0, 1, [65]),
                    publish(1, "", "q")):
            for sent in ([], [frame(3, 1, [1])]):
                talk = ready()
                self.assertEqual(talk.reply(publish(1, "", "q"), header(1, 2), *sent, row), line_fault(505, 60, 40))
                self.assertEqual(talk.told(), [0, 0, 1, 0, 0])

    def test_a_header_that_is_not_so(self):
        right = header(1, 1)[7:-1]
        wrongs = [right[:-1], right + [0], [], right[:4], right + right]
        for place in (0, 1, 2, 3, 12, 13):
            wrong = list(right)
            wrong[place] += 1
            wrongs.append(wrong)
        for wrong in wrongs:
            self.assertEqual(ready().reply(publish(1, "", "q"), frame(2, 1, wrong)), line_fault(502, 60, 40))

    def test_too_long(self):
        for length in (65537, 2 ** 31, 2 ** 32, 2 ** 63, 2 ** 64 - 1):
            talk = ready()
            self.assertEqual(talk.reply(publish(1, "", "q"), header(1, length)), channel_fault(1, 311, 60, 40))
            # Its content comes all the same, and isn't looked at.
            self.assertEqual(talk.reply(frame(3, 1, [1]), channel_closed(1), channel_open(1)), channel_opened(1))
            self.assertEqual(talk.told(), [0, 0, 1, 0, 0])

    def test_a_wrong_header_before_too_long(self):
        row = frame(2, 1, header(1, 65537)[7:-2] + [1])
        self.assertEqual(ready().reply(publish(1, "", "q"), row), line_fault(502, 60, 40))

    def test_the_longest_is_waited_for(self):
        talk = ready()
        self.assertEqual(talk.reply(publish(1, "", "q"), header(1, 65536), frame(3, 1, [5] * 20000)), [])
        self.assertEqual(talk.reply(frame(3, 1, [])), [])
        self.assertEqual(talk.told(), [0, 0, 1, 0, 0])

    def whole_house(self, *rows):
        """More bytes than one list of calls may hold, handed to a house itself."""
        house = House()
        house.open_line(0)
        house.take_in(0, WAY_UP + channel_open(1) + declare_queue(1, "q", 16))
        house.give_out(0, 65536)
        for row in rows:
            house.take_in(0, row)
        first = house.give_out(0, 65536)
        return first[1:] + house.give_out(0, 65536)[1:]

    def test_the_longest(self):
        letters = [number % 251 for number in range(65536)]
        expected = got(1, 1, "", "q", 0, letters)
        self.assertEqual(self.whole_house(post(1, "", "q", letters), get(1, "q")), expected)
        halves = frame(3, 1, letters[:30000]) + frame(3, 1, letters[30000:])
        self.assertEqual(self.whole_house(publish(1, "", "q") + header(1, 65536), halves, get(1, "q")), expected)

    def test_the_longest_frame(self):
        # It's a frame like others, and is refused for being more than the content's length.
        row = frame(3, 1, [0] * 131064)
        self.assertEqual(self.whole_house(publish(1, "", "q") + header(1, 65536), row[:131071]), [])
        self.assertEqual(self.whole_house(publish(1, "", "q") + header(1, 65536), row), line_fault(501, 60, 40))

    def test_channels_do_not_mix(self):
        talk = up(channels=(1, 2)).say(declare_queue(1, "q", 16))
        talk.say(publish(1, "", "q"), publish(2, "", "q"), header(2, 2), header(1, 2), frame(3, 2, [98]))
        talk.say(frame(3, 1, [97]), frame(3, 2, [98]), declare_queue(2, "p", 16), frame(3, 1, [97]))
        self.assertEqual(talk.reply(get(1, "q", 1), get(1, "q", 1)),
                         got(1, 1, "", "q", 1, "bb") + got(1, 2, "", "q", 0, "aa"))

    def test_all_bytes(self):
        letters = list(range(256))
        self.assertEqual(ready().reply(post(1, "", "q", letters), get(1, "q")), got(1, 1, "", "q", 0, letters))

    def test_cut_anywhere(self):
        row = publish(1, "", "q") + header(1, 3) + frame(3, 1, [1]) + frame(3, 1, [2, 3]) + get(1, "q")
        for cut in range(len(row) + 1):
            self.assertEqual(ready().say(row[:cut]).say(row[cut:]).hear(), got(1, 1, "", "q", 0, [1, 2, 3]))
        talk = ready()
        for byte in row:
            talk.say([byte])
        self.assertEqual(talk.hear(), got(1, 1, "", "q", 0, [1, 2, 3]))


class Refused(unittest.TestCase):
    def test_no_such_exchange(self):
        for bits in (0, 1):
            talk = ready()
            self.assertEqual(talk.reply(publish(1, "none", "q", bits)), channel_fault(1, 404, 60, 40))
            self.assertEqual(talk.reply(content(1, "hello"), post(1, "", "q", "a")), [])
            self.assertEqual(talk.told(), [0, 0, 1, 0, 0])

    def test_a_queue_is_no_exchange(self):
        self.assertEqual(ready().reply(publish(1, "q", "q")), channel_fault(1, 404, 60, 40))


class ComesTo(unittest.TestCase):
    """Which queues a message comes to, told by how many wait in each."""

    def counts(self, kind, bindings, keys, queues="abc"):
        talk = up().say(declare_exchange(1, "x", kind, 16), *[declare_queue(1, queue, 16) for queue in queues])
        talk.say(*[bind(1, queue, "x", key, 1) for queue, key in bindings])
        talk.say(*[post(1, "x", key) for key in keys])
        row = talk.reply(*[declare_queue(1, queue) for queue in queues])
        size = len(queue_declared(1, "a"))
        return [row[size * place + size - 6] for place in range(len(queues))]

    def test_the_empty_exchange(self):
        talk = up().say(declare_queue(1, "a", 16), declare_queue(1, "b", 16))
        talk.say(post(1, "", "b", "1"), post(1, "", "c", "2"), post(1, "", "", "3"), post(1, "", "b.", "4"))
        self.assertEqual(talk.told(), [0, 0, 2, 1, 0])
        self.assertEqual(talk.reply(get(1, "a"), get(1, "b")), got_none(1) + got(1, 1, "", "b", 0, "1"))

    def test_direct(self):
        bindings = (("a", "k"), ("b", "k"), ("b", "l"), ("c", "l"))
        self.assertEqual(self.counts("direct", bindings, ["k"]), [1, 1, 0])
        self.assertEqual(self.counts("direct", bindings, ["l"]), [0, 1, 1])
        self.assertEqual(self.counts("direct", bindings, ["", "kl", "K", "a"]), [0, 0, 0])
        self.assertEqual(self.counts("direct", (("a", "#"), ("b", "*"), ("c", "")), ["k", ""]), [0, 0, 1])

    def test_fanout(self):
        bindings = (("a", "k"), ("a", "l"), ("c", ""))
        self.assertEqual(self.counts("fanout", bindings, ["k"]), [1, 0, 1])
        self.assertEqual(self.counts("fanout", bindings, ["z", ""]), [2, 0, 2])

    def test_topic_once(self):
        bindings = (("a", "#"), ("a", "k.*"), ("a", "k.l"), ("b", "k.*"))
        self.assertEqual(self.counts("topic", bindings, ["k.l"]), [1, 1, 0])

    def test_other_exchanges_have_no_say(self):
        talk = up().say(declare_exchange(1, "x", "fanout", 16), declare_exchange(1, "y", "topic", 16))
        talk.say(declare_queue(1, "a", 16), declare_queue(1, "b", 16), bind(1, "a", "x", "k", 1))
        talk.say(bind(1, "b", "y", "#", 1), post(1, "y", "k", "1"))
        self.assertEqual(talk.reply(get(1, "a"), get(1, "b")), got_none(1) + got(1, 1, "y", "k", 0, "1"))

    def test_as_the_last(self):
        talk = up().say(declare_exchange(1, "x", "fanout", 16), declare_queue(1, "q", 16), bind(1, "q", "x", "", 1))
        talk.say(post(1, "", "q", "1"), post(1, "x", "k", "2"), post(1, "", "q", "3"))
        self.assertEqual(talk.reply(get(1, "q"), get(1, "q"), get(1, "q")),
                         got(1, 1, "", "q", 2, "1") + got(1, 2, "x", "k", 1, "2") + got(1, 3, "", "q", 0, "3"))

    def test_exchange_gone_in_between(self):
        for again in ([], [declare_exchange(1, "x", "fanout", 16)]):
            talk = up(channels=(1, 2)).say(declare_exchange(1, "x", "fanout", 16), declare_queue(1, "q", 16))
            talk.say(bind(1, "q", "x", "", 1), publish(2, "x", "k", 1), delete_exchange(1, "x", 2), *again)
            self.assertEqual(talk.reply(content(2, "hi")), returned(2, "x", "k", "hi"))
            self.assertEqual(talk.told()[3], 0)

    def test_queue_made_in_between(self):
        talk = up(channels=(1, 2)).say(publish(1, "", "q", 1), declare_queue(2, "q", 16), content(1, "a"))
        self.assertEqual(talk.hear(), [])
        self.assertEqual(talk.told(), [0, 0, 1, 1, 0])


def fits(pattern, words):
    """Topics by the plainest rule, word by word."""
    if not pattern:
        return not words
    if pattern[0] == "#":
        return any(fits(pattern[1:], words[place:]) for place in range(len(words) + 1))
    return bool(words) and pattern[0] in ("*", words[0]) and fits(pattern[1:], words[1:])


class Topics(unittest.TestCase):
    def takes(self, pairs):
        """Whether each (pattern, key) comes to the queue bound by the pattern."""
        talk = up().say(declare_exchange(1, "x", "topic", 16), declare_queue(1, "q", 16))
        for pattern, key in pairs:
            talk.say(bind(1, "q", "x", pattern, 1), post(1, "x", key), unbind(1, "q", "x", pattern), purge(1, "q"))
        row = talk.hear()
        size = len(method(1, 50, 51)) + len(method(1, 50, 31, num(0, 4)))
        return [row[place * size + size - 2] == 1 for place in range(len(pairs))]

    def test_told_ones(self):
        yes = [("a.b", "a.b"), ("a.*", "a.b"), ("*.b", "a.b"), ("*.*", "a.b"), ("#", "a.b"), ("#", ""), ("#", "a"),
               ("a.#", "a"), ("a.#", "a.b.c"), ("#.c", "c"), ("#.c", "a.b.c"), ("a.#.c", "a.c"), ("a.#.c", "a.b.b.c"),
               ("#.#", ""), ("#.#.#", "a"), ("*.#", "a"), ("#.*", "a"), ("*.#.*", "a.b"), ("", ""),
               (".", "."), ("*.*", "."), ("a..b", "a..b"), ("a.*.b", "a..b"), ("#.b.#", "a.b.b.c"), ("a.b.#", "a.b"),
               ("#.a.b", "a.a.b"), ("#.a.#.b.#", "x.a.y.b.z"), ("*a", "*a"), ("a#", "a#")]
        no = [("a.b", "a"), ("a.b", "a.b.c"), ("a.*", "a"), ("a.*", "a.b.c"), ("*", "a.b"), ("a.#", "b.a"), ("#.c", "c.d"), ("a.#.c", "a.b"), ("*.#.*", "a"), ("*.*", "a"), ("", "a"), ("a", ""),
              ("", "."), (".", ""), ("*a", "ba"), ("a#", "a"), ("a*", "ab"), ("##", "a"), ("**", "a"), ("A", "a"),
              ("a.b", "a b"), ("#.a.#.b.#", "b.a"), ("*", ".")]
        # An empty key is one empty word, which a star takes.
        yes += [("*", ""), ("*.#", ""), ("#.*", "")]
        no += [("*.*", ""), ("*.#.*", "")]
        for pattern, answer in zip(yes, self.takes(yes)):
            self.assertTrue(answer, pattern)
        for pattern, answer in zip(no, self.takes(no)):
            self.assertFalse(answer, pattern)

    def test_all_small_ones(self):
        patterns = [".".join(row) for size in (1, 2, 3) for row in itertools.product("ab*#", repeat=size)]
        keys = [".".join(row) for size in (1, 2, 3) for row in itertools.product(("a", "b", ""), repeat=size)]
        pairs = [(pattern, key) for pattern in patterns for key in keys]
        for start in range(0, len(pairs), 60):
            part = pairs[start:start + 60]
            expected = [fits(pattern.split("."), key.split(".")) for pattern, key in part]
            self.assertEqual(self.takes(part), expected)

    def test_long_ones(self):
        many = ".".join("#a" for time in range(64))
        pairs = [("#.a." * 63 + "#", "a." * 127 + "a"), ("#.a." * 63 + "b", "a." * 127 + "a"),
                 ("." * 255, "." * 255), ("." * 255, "." * 254), ("*." * 127 + "*", "." * 127), ("#." * 127 + "#", ""),
                 (many.replace("a", ".a"), "." * 255)]
        self.assertEqual(self.takes(pairs), [True, False, True, False, True, True, False])

    def test_many_hard_ones_are_quick(self):
        talk = up().say(declare_exchange(1, "x", "topic", 16))
        talk.say(*[declare_queue(1, str(number), 16) for number in range(40)])
        pattern = "#.a." * 62 + "#.b"
        talk.say(*[bind(1, str(number), "x", pattern, 1) for number in range(40)])
        talk.say(*[post(1, "x", "a." * 127 + "a") for number in range(40)])
        self.assertEqual(talk.told(), [1, 40, 40, 0, 0])


class ToNone(unittest.TestCase):
    def test_returned(self):
        self.assertEqual(up().reply(post(1, "", "q", "hello", 1)), returned(1, "", "q", "hello"))
        self.assertEqual(up().reply(post(1, "", "q", "", 1)), returned(1, "", "q", ""))

    def test_the_very_bytes(self):
        told = [1, 0, 1, 0, 0, 0, 14, 0, 60, 0, 50, 1, 56, 4, 110, 111, 110, 101, 0, 1, 113, 206]
        head = [2, 0, 1, 0, 0, 0, 14, 0, 60, 0, 0, 0, 0, 0, 0, 0, 0, 0, 0, 0, 0, 206]
        self.assertEqual(up().reply(post(1, "", "q", "", 1)), told + head)

    def test_without_the_bit(self):
        for bits in (0, 2, 4, 254):
            self.assertEqual(up().reply(post(1, "", "q", "hello", bits)), [])

    def test_with_the_bit_among_others(self):
        self.assertEqual(up().reply(post(1, "", "q", "a", 255)), returned(1, "", "q", "a"))

    def test_by_each_kind(self):
        for kind in ("direct", "fanout", "topic"):
            talk = up().say(declare_exchange(1, "x", kind, 16), declare_queue(1, "q", 16))
            self.assertEqual(talk.reply(post(1, "x", "q", "a", 1)), returned(1, "x", "q", "a"))
            talk.say(bind(1, "q", "x", "q", 1))
            self.assertEqual(talk.reply(post(1, "x", "q", "a", 1)), [])

    def test_not_when_it_comes_to_one(self):
        self.assertEqual(ready().reply(post(1, "", "q", "a", 1)), [])

    def test_to_the_channel_that_put_it(self):
        talk = up(channels=(1, 7)).up(1)
        self.assertEqual(talk.reply(post(7, "", "n", "a", 1)), returned(7, "", "n", "a"))
        self.assertEqual(talk.hear(1), [])


class Room(unittest.TestCase):
    """1048576 bytes of what waits or is handed out, each message 64 more."""

    def fan(self, size, queues=64):
        talk = up().say(declare_exchange(1, "x", "fanout", 16))
        talk.say(*[declare_queue(1, f"q{number}", 16) for number in range(queues)])
        talk.say(*[bind(1, f"q{number}", "x", "", 1) for number in range(queues)])
        return talk.say(post(1, "x", "k", [6] * size, 1))

    def test_all_just_fit(self):
        talk = self.fan(16384 - 64)
        self.assertEqual(talk.told(), [1, 64, 64, 64, 0])
        self.assertEqual(talk.hear(), [])

    def test_one_byte_too_many_for_all(self):
        talk = self.fan(16384 - 63)
        self.assertEqual(talk.told(), [1, 64, 64, 0, 0])
        # It came to queues, though none had room: so it isn't returned.
        self.assertEqual(talk.hear(), [])

    def test_full(self):
        talk = self.fan(16384 - 64)
        self.assertEqual(talk.reply(post(1, "", "q0", "", 1)), [])
        self.assertEqual(talk.told(), [1, 64, 64, 64, 0])
        self.assertEqual(talk.reply(post(1, "", "none", "", 1)), returned(1, "", "none"))

    def test_a_little_left(self):
        # 64 times one byte is left: room for an empty message, and no more.
        talk = self.fan(16384 - 64 - 1)
        talk.say(post(1, "", "q0", "a"))
        self.assertEqual(talk.told()[3], 64)
        talk.say(post(1, "", "q0", ""))
        self.assertEqual(talk.told()[3], 65)
        talk.say(post(1, "", "q0", ""))
        self.assertEqual(talk.told()[3], 65)

    def full(self, *rows):
        """A full house with an exchange y that's bound to 16 queues; then these rows."""
        talk = self.fan(16384 - 64).say(declare_exchange(1, "y", "fanout", 16))
        return talk.say(*[bind(1, f"q{number}", "y", "", 1) for number in range(40, 56)], *rows)

    def check_freed(self, *rows):
        """These rows free one message of 16320 bytes and 64 more: just what 16 of 960 take."""
        talk = self.full(*rows)
        before = talk.told()[3]
        talk.say(post(1, "y", "k", [5] * 961))
        self.assertEqual(talk.told()[3], before)
        talk.say(post(1, "y", "k", [5] * 960))
        self.assertEqual(talk.told()[3], before + 16)
        talk.say(post(1, "", "q40", ""))
        self.assertEqual(talk.told()[3], before + 16)

    def check_not_freed(self, *rows):
        talk = self.full(*rows)
        before = talk.told()[3]
        talk.say(post(1, "", "q40", ""))
        self.assertEqual(talk.told()[3], before)

    def test_handed_out_still_counts(self):
        self.check_not_freed(get(1, "q3"))
        self.check_not_freed(consume(1, "q3", "t"))

    def test_taken_freely(self):
        self.check_freed(get(1, "q3", 1))
        self.check_freed(consume(1, "q3", "t", 2))

    def test_owned_up_to(self):
        self.check_freed(get(1, "q3"), ack(1, 1))
        self.check_freed(get(1, "q3"), ack(1, 9, 1))
        self.check_freed(get(1, "q3"), ack(1, 0, 1))
        self.check_freed(get(1, "q3"), delete_queue(1, "q3"), ack(1, 1))

    def test_turned_down(self):
        self.check_freed(get(1, "q3"), reject(1, 1))
        self.check_not_freed(get(1, "q3"), reject(1, 1, 1))

    def test_purged_or_deleted(self):
        self.check_freed(purge(1, "q3"))
        self.check_freed(delete_queue(1, "q3"))
        self.check_not_freed(get(1, "q3"), purge(1, "q3"))
        self.check_not_freed(get(1, "q3"), delete_queue(1, "q3"))

    def test_given_back(self):
        self.check_not_freed(get(1, "q3"), recover(1))
        self.check_not_freed(get(1, "q3"), channel_close(1), channel_open(1))

    def test_lost(self):
        self.check_freed(get(1, "q3"), delete_queue(1, "q3"), reject(1, 1, 1))
        self.check_freed(get(1, "q3"), delete_queue(1, "q3"), recover(1))
        self.check_freed(get(1, "q3"), delete_queue(1, "q3"), channel_close(1), channel_open(1))

    def test_many_empty_ones(self):
        talk = up().say(declare_exchange(1, "x", "fanout", 16))
        talk.say(*[declare_queue(1, f"q{number}", 16) for number in range(64)])
        talk.say(*[bind(1, f"q{number}", "x", "", 1) for number in range(64)])
        talk.say(*[post(1, "x", "", "") for number in range(257)])
        self.assertEqual(talk.told(), [1, 64, 64, 16384, 0])
        talk.say(get(1, "q0", 1), post(1, "", "q0", "a"))
        self.assertEqual(talk.told()[3], 16383)
        talk.say(post(1, "", "q0", ""))
        self.assertEqual(talk.told()[3], 16384)

    def test_all_or_none(self):
        # Room is left for one of two, so neither gets it.
        talk = self.fan(16384 - 64 - 1)
        talk.say(declare_exchange(1, "y", "fanout", 16), bind(1, "q1", "y", "", 1), bind(1, "q2", "y", "", 1))
        self.assertEqual(talk.reply(post(1, "y", "k", "", 1)), [])
        self.assertEqual(talk.told()[3], 64)
        talk.say(unbind(1, "q2", "y")).add(3, 0, 65536)
        self.assertEqual(talk.reply(post(1, "y", "k", "", 1)), [])
        self.assertEqual(talk.told()[3], 65)


if __name__ == "__main__":
    unittest.main()
