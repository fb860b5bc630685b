"""The methods of a channel that make, bind and remove: 20, 40 and 50."""

import unittest

from tests.helper import (
    TABLE, ack, bind, cancel, channel_close, channel_closed, channel_fault, channel_open, channel_opened, consume,
    declare_exchange, declare_queue, delete_exchange, delete_queue, delivered, frame, get, got, header, limit,
    line_fault, method, num, post, publish, purge, queue_declared, recover, reject, text, unbind, up,
)

NOT_NAMES = ("a b", " ", "a" * 65, "\x7f", "\x20", "a\x00", [128], [255], [0x80] * 3, "\n")
NAMES = ("!", "~", "a" * 64, "amq.direct", "a.b*#", "0")


class EveryMethod(unittest.TestCase):
    """What holds for all methods alike."""

    ROWS = (
        channel_close(1), channel_closed(1), declare_exchange(1, "x", "fanout"), delete_exchange(1, "x"),
        declare_queue(1, "q"), bind(1, "q", "x", "k"), unbind(1, "q", "x", "k"), purge(1, "q"), delete_queue(1, "q"),
        limit(1, 3), consume(1, "q", "t"), cancel(1, "t"), publish(1, "x", "k"), get(1, "q"), ack(1, 1), reject(1, 1),
        recover(1),
    )

    def ready(self):
        talk = up().say(declare_exchange(1, "x", "fanout", 16), declare_queue(1, "q", 16), post(1, "", "q", "a"))
        return talk.say(get(1, "q")).add(3, 0, 65536)

    def test_not_a_method(self):
        for kind in (0, 2, 3, 4, 7, 9, 255):
            self.assertEqual(up().reply(frame(kind, 1, declare_queue(1, "q")[7:-1])), line_fault(505))
            self.assertEqual(up().reply(frame(kind, 1, [])), line_fault(505))
        self.assertEqual(up().reply(header(1, 0)), line_fault(505))

    def test_less_than_four_bytes(self):
        for size in range(4):
            self.assertEqual(up().reply(frame(1, 1, [0, 50, 0, 10][:size])), line_fault(502))

    def test_a_method_that_is_not_there(self):
        for group, number in ((0, 0), (10, 50), (10, 51), (20, 10), (20, 11), (20, 20), (30, 10), (40, 11), (40, 30),
                              (50, 11), (50, 51), (60, 11), (60, 50), (60, 60), (60, 71), (60, 100), (60, 111),
                              (60, 120), (85, 10), (90, 10), (50, 10 + 256), (50 + 256, 10), (65535, 65535)):
            self.assertEqual(self.ready().reply(method(1, group, number)), line_fault(540, group, number))
            self.assertEqual(self.ready().reply(method(1, group, number, [1])), line_fault(540, group, number))

    def test_each_is_taken_as_it_is(self):
        for row in self.ROWS:
            reply = self.ready().reply(row)
            fault = line_fault(503, 20, 41) if row == channel_closed(1) else []
            self.assertEqual(reply[:len(fault)], fault)
            self.assertNotEqual(reply[7:11], [0, 20, 0, 40])
            if not fault:
                self.assertNotEqual(reply[7:11], [0, 10, 0, 50])

    def test_each_cut_short_or_with_a_byte_more(self):
        for row in self.ROWS:
            body = row[7:-1]
            for size in range(4, len(body)):
                fault = line_fault(502, body[1], body[3])
                self.assertEqual(self.ready().reply(frame(1, 1, body[:size])), fault)
            self.assertEqual(self.ready().reply(frame(1, 1, body + [0])), line_fault(502, body[1], body[3]))

    def test_tables_that_are_not_empty(self):
        for row in self.ROWS:
            body = row[7:-1]
            if body[-4:] == TABLE and body[1] != 20:
                for table in ([0, 0, 0, 1], [1, 0, 0, 0], [0, 0, 0, 5, 1, 65, 116, 1, 9]):
                    self.assertEqual(self.ready().reply(frame(1, 1, body[:-4] + table)),
                                     line_fault(502, body[1], body[3]))

    def test_what_it_takes_goes_before_what_it_says(self):
        # No such queue would be 404, but the line's fault comes first.
        self.assertEqual(up().reply(method(1, 60, 70, num(0, 2), text("none"))), line_fault(502, 60, 70))

    def test_the_two_bytes_ahead_are_any(self):
        row = method(1, 50, 10, [255, 254], text("q"), [0], TABLE)
        self.assertEqual(up().reply(row), queue_declared(1, "q"))


class Closing(unittest.TestCase):
    def test_close(self):
        talk = up()
        self.assertEqual(talk.reply(channel_close(1)), channel_closed(1))
        self.assertEqual(talk.reply(channel_open(1)), channel_opened(1))

    def test_then_it_is_not_there(self):
        self.assertEqual(up().reply(channel_close(1), declare_queue(1, "q")), channel_closed(1) + line_fault(504))

    def test_takers_go_and_the_rest_is_given_back(self):
        talk = up(channels=(1, 2)).say(declare_queue(1, "q"), consume(1, "q", "t"), post(1, "", "q", "a"))
        talk.say(post(1, "", "q", "b")).add(3, 0, 65536)
        self.assertEqual(talk.reply(channel_close(1)), channel_closed(1))
        self.assertEqual(talk.told(), [0, 0, 1, 2, 0])
        self.assertEqual(talk.reply(consume(2, "q", "u", 8)),
                         delivered(2, "u", 1, "", "q", "a", 1) + delivered(2, "u", 2, "", "q", "b", 1))

    def test_numbers_begin_anew(self):
        talk = up().say(declare_queue(1, "q"), post(1, "", "q", "a"), get(1, "q", 1), channel_close(1))
        talk.say(channel_open(1), post(1, "", "q", "b")).add(3, 0, 65536)
        self.assertEqual(talk.reply(get(1, "q")), got(1, 1, "", "q", 0, "b"))

    def test_closed_comes_unasked(self):
        talk = up().say(declare_queue(1, "q", 16), consume(1, "q", "t", 8))
        self.assertEqual(talk.reply(channel_closed(1)), line_fault(503, 20, 41))
        self.assertEqual(talk.told(), [0, 0, 1, 0, 0])
        self.assertEqual(up().reply(method(1, 20, 41, [1])), line_fault(502, 20, 41))

    def test_half_a_message_is_gone_with_it(self):
        talk = up().up(1).say(declare_queue(1, "q", 16), publish(1, "", "q"), header(1, 2), frame(3, 1, [65]))
        talk.close().up(0)
        self.assertEqual(talk.reply(get(1, "q")), method(1, 60, 72, [0]))


class Exchanges(unittest.TestCase):
    def test_declared(self):
        for kind in ("direct", "fanout", "topic"):
            talk = up()
            self.assertEqual(talk.reply(declare_exchange(1, "x", kind)), method(1, 40, 11))
            self.assertEqual(talk.told(), [1, 0, 0, 0, 0])
            self.assertEqual(talk.reply(declare_exchange(1, "x", kind)), method(1, 40, 11))
            self.assertEqual(talk.told(), [1, 0, 0, 0, 0])

    def test_names(self):
        for name in NAMES:
            self.assertEqual(up().reply(declare_exchange(1, name)), method(1, 40, 11))
        for name in NOT_NAMES + ("",):
            for bits in (0, 1, 16, 17):
                talk = up()
                self.assertEqual(talk.reply(declare_exchange(1, name, "direct", bits)), channel_fault(1, 403, 40, 10))
                self.assertEqual(talk.told(), [0, 0, 0, 0, 0])

    def test_bits(self):
        for bits in (2, 4, 8, 32, 64, 128):
            self.assertEqual(up().reply(declare_exchange(1, "x", "direct", bits)), method(1, 40, 11))
        talk = up()
        self.assertEqual(talk.reply(declare_exchange(1, "x", "direct", 16)), [])
        self.assertEqual(talk.told(), [1, 0, 0, 0, 0])

    def test_only_asked(self):
        talk = up().say(declare_exchange(1, "x", "direct", 16))
        self.assertEqual(talk.reply(declare_exchange(1, "x", "direct", 1)), method(1, 40, 11))
        self.assertEqual(talk.reply(declare_exchange(1, "x", "topic", 1)), method(1, 40, 11))
        self.assertEqual(talk.reply(declare_exchange(1, "x", "nonsense", 1)), method(1, 40, 11))
        self.assertEqual(talk.reply(declare_exchange(1, "x", "direct", 17)), [])
        self.assertEqual(talk.reply(declare_exchange(1, "y", "nonsense", 1)), channel_fault(1, 404, 40, 10))
        self.assertEqual(talk.told(), [1, 0, 0, 0, 0])

    def test_kinds_that_are_none(self):
        for kind in ("", "headers", "Direct", "direct ", "topi", "fanout\x00"):
            talk = up()
            self.assertEqual(talk.reply(declare_exchange(1, "x", kind)), line_fault(503, 40, 10))
            self.assertEqual(talk.told(), [0, 0, 0, 0, 0])

    def test_a_wrong_name_before_a_wrong_kind(self):
        self.assertEqual(up().reply(declare_exchange(1, "", "headers")), channel_fault(1, 403, 40, 10))

    def test_a_wrong_kind_before_another_kind(self):
        talk = up().say(declare_exchange(1, "x", "direct", 16))
        self.assertEqual(talk.reply(declare_exchange(1, "x", "headers")), line_fault(503, 40, 10))

    def test_another_kind(self):
        talk = up().say(declare_exchange(1, "x", "direct", 16))
        self.assertEqual(talk.reply(declare_exchange(1, "x", "fanout", 16)), channel_fault(1, 406, 40, 10))
        self.assertEqual(talk.told(), [1, 0, 0, 0, 0])

    def full(self):
        return up().say(*[declare_exchange(1, f"x{number}", "direct", 16) for number in range(32)])

    def test_thirty_two(self):
        talk = self.full()
        self.assertEqual(talk.told(), [32, 0, 0, 0, 0])
        self.assertEqual(talk.reply(declare_exchange(1, "y")), channel_fault(1, 406, 40, 10))
        self.assertEqual(talk.told(), [32, 0, 0, 0, 0])

    def test_one_of_thirty_two(self):
        self.assertEqual(self.full().reply(declare_exchange(1, "x31")), method(1, 40, 11))
        self.assertEqual(self.full().reply(declare_exchange(1, "x31", "topic")), channel_fault(1, 406, 40, 10))

    def test_place_for_another_when_one_is_deleted(self):
        talk = self.full().say(delete_exchange(1, "x3", 2))
        self.assertEqual(talk.reply(declare_exchange(1, "y")), method(1, 40, 11))

    def test_deleted(self):
        talk = up().say(declare_exchange(1, "x", "direct", 16))
        self.assertEqual(talk.reply(delete_exchange(1, "x")), method(1, 40, 21))
        self.assertEqual(talk.told(), [0, 0, 0, 0, 0])
        self.assertEqual(talk.reply(declare_exchange(1, "x", "fanout")), method(1, 40, 11))

    def test_deleted_though_it_is_not_there(self):
        for bits in (0, 1, 4, 128):
            self.assertEqual(up().reply(delete_exchange(1, "x", bits)), method(1, 40, 21))
        self.assertEqual(up().reply(delete_exchange(1, "not a name")), method(1, 40, 21))
        self.assertEqual(up().reply(delete_exchange(1, "x", 2)), [])

    def test_the_empty_one_is_not_deleted(self):
        for bits in (0, 1, 2, 3):
            self.assertEqual(up().reply(delete_exchange(1, "", bits)), channel_fault(1, 403, 40, 20))

    def test_deleted_quietly(self):
        talk = up().say(declare_exchange(1, "x", "direct", 16))
        self.assertEqual(talk.reply(delete_exchange(1, "x", 2)), [])
        self.assertEqual(talk.told(), [0, 0, 0, 0, 0])

    def bound(self):
        talk = up().say(declare_exchange(1, "x", "direct", 16), declare_exchange(1, "y", "direct", 16))
        talk.say(declare_queue(1, "q", 16), declare_queue(1, "p", 16))
        return talk.say(bind(1, "q", "x", "a", 1), bind(1, "q", "x", "b", 1), bind(1, "p", "x", "a", 1),
                        bind(1, "q", "y", "a", 1))

    def test_bindings_go_with_it(self):
        talk = self.bound()
        self.assertEqual(talk.told(), [2, 4, 2, 0, 0])
        self.assertEqual(talk.reply(delete_exchange(1, "x")), method(1, 40, 21))
        self.assertEqual(talk.told(), [1, 1, 2, 0, 0])
        talk.say(declare_exchange(1, "x", "direct", 16), post(1, "x", "a"), post(1, "y", "a"))
        self.assertEqual(talk.told(), [2, 1, 2, 1, 0])

    def test_not_deleted_if_something_is_bound(self):
        talk = self.bound()
        self.assertEqual(talk.reply(delete_exchange(1, "x", 1)), channel_fault(1, 406, 40, 20))
        self.assertEqual(talk.told(), [2, 4, 2, 0, 0])

    def test_deleted_if_nothing_is_bound(self):
        talk = self.bound().say(unbind(1, "q", "y", "a")).add(3, 0, 65536)
        self.assertEqual(talk.reply(delete_exchange(1, "y", 1)), method(1, 40, 21))
        self.assertEqual(talk.told(), [1, 3, 2, 0, 0])


class Queues(unittest.TestCase):
    def test_declared(self):
        talk = up()
        self.assertEqual(talk.reply(declare_queue(1, "q")), queue_declared(1, "q"))
        self.assertEqual(talk.told(), [0, 0, 1, 0, 0])
        talk.say(post(1, "", "q", "a"), post(1, "", "q", "b"))
        self.assertEqual(talk.reply(declare_queue(1, "q")), queue_declared(1, "q", 2, 0))
        talk.say(limit(1, 1), consume(1, "q", "t"), consume(1, "q", "u"), consume(1, "q", "v")).add(3, 0, 65536)
        self.assertEqual(talk.reply(declare_queue(1, "q")), queue_declared(1, "q", 1, 3))
        self.assertEqual(talk.told(), [0, 0, 1, 1, 3])

    def test_names(self):
        for name in NAMES:
            self.assertEqual(up().reply(declare_queue(1, name)), queue_declared(1, name))
        for name in NOT_NAMES:
            for bits in (0, 1, 16):
                self.assertEqual(up().reply(declare_queue(1, name, bits)), channel_fault(1, 403, 50, 10))

    def test_bits(self):
        for bits in (2, 4, 8, 32, 64, 128):
            self.assertEqual(up().reply(declare_queue(1, "q", bits)), queue_declared(1, "q"))
        talk = up()
        self.assertEqual(talk.reply(declare_queue(1, "q", 16)), [])
        self.assertEqual(talk.told(), [0, 0, 1, 0, 0])

    def test_only_asked(self):
        self.assertEqual(up().reply(declare_queue(1, "q", 1)), channel_fault(1, 404, 50, 10))
        self.assertEqual(up().reply(declare_queue(1, "", 1)), channel_fault(1, 404, 50, 10))
        self.assertEqual(up().reply(declare_queue(1, "q"), declare_queue(1, "q", 1), declare_queue(1, "q", 17)),
                         queue_declared(1, "q") * 2)

    def test_named_by_the_house(self):
        talk = up()
        for number in range(1, 12):
            self.assertEqual(talk.reply(declare_queue(1, "")), queue_declared(1, f"amq.gen-{number}"))
        self.assertEqual(talk.told(), [0, 0, 11, 0, 0])
        self.assertEqual(talk.reply(declare_queue(1, "amq.gen-7")), queue_declared(1, "amq.gen-7"))
        self.assertEqual(talk.told(), [0, 0, 11, 0, 0])

    def test_named_by_the_house_quietly(self):
        talk = up()
        self.assertEqual(talk.reply(declare_queue(1, "", 16)), [])
        self.assertEqual(talk.reply(declare_queue(1, "")), queue_declared(1, "amq.gen-2"))
        self.assertEqual(talk.reply(get(1, "amq.gen-1")), method(1, 60, 72, [0]))

    def test_names_of_the_house_are_not_used_again(self):
        talk = up().say(declare_queue(1, "", 16), delete_queue(1, "amq.gen-1", 4))
        self.assertEqual(talk.reply(declare_queue(1, "")), queue_declared(1, "amq.gen-2"))

    def test_a_name_of_the_house_that_is_there(self):
        talk = up().say(declare_queue(1, "amq.gen-1", 16))
        self.assertEqual(talk.reply(declare_queue(1, "")), channel_fault(1, 405, 50, 10))
        self.assertEqual(talk.told(), [0, 0, 1, 0, 0])
        # None has been named so, so it's the same name that comes next.
        talk.say(channel_closed(1), channel_open(1), delete_queue(1, "amq.gen-1", 4)).add(3, 0, 65536)
        self.assertEqual(talk.reply(declare_queue(1, "")), queue_declared(1, "amq.gen-1"))

    def full(self):
        return up().say(*[declare_queue(1, f"q{number}", 16) for number in range(64)])

    def test_sixty_four(self):
        talk = self.full()
        self.assertEqual(talk.told(), [0, 0, 64, 0, 0])
        self.assertEqual(talk.reply(declare_queue(1, "q63")), queue_declared(1, "q63"))
        self.assertEqual(talk.reply(declare_queue(1, "q64")), channel_fault(1, 406, 50, 10))
        self.assertEqual(talk.told(), [0, 0, 64, 0, 0])
        self.assertEqual(self.full().reply(declare_queue(1, "")), channel_fault(1, 406, 50, 10))
        self.assertEqual(self.full().reply(declare_queue(1, "q64", 1)), channel_fault(1, 404, 50, 10))
        self.assertEqual(self.full().reply(declare_queue(1, "a b")), channel_fault(1, 403, 50, 10))

    def test_sixty_four_before_a_name_of_the_house(self):
        talk = self.full().say(delete_queue(1, "q0", 4), declare_queue(1, "amq.gen-1", 16))
        self.assertEqual(talk.reply(declare_queue(1, "")), channel_fault(1, 406, 50, 10))

    def test_place_for_another_when_one_is_deleted(self):
        talk = self.full().say(delete_queue(1, "q5", 4))
        self.assertEqual(talk.reply(declare_queue(1, "q64")), queue_declared(1, "q64"))

    def test_purged(self):
        talk = up().say(declare_queue(1, "q", 16), post(1, "", "q", "a"), post(1, "", "q", "b"), get(1, "q"))
        talk.say(post(1, "", "q", "c")).add(3, 0, 65536)
        self.assertEqual(talk.reply(purge(1, "q")), method(1, 50, 31, num(2, 4)))
        self.assertEqual(talk.told(), [0, 0, 1, 0, 0])
        self.assertEqual(talk.reply(purge(1, "q")), method(1, 50, 31, num(0, 4)))
        # What's handed out isn't purged.
        self.assertEqual(talk.reply(reject(1, 1, 1), get(1, "q")), got(1, 2, "", "q", 0, "a", 1))

    def test_purged_quietly(self):
        talk = up().say(declare_queue(1, "q", 16), post(1, "", "q", "a"))
        self.assertEqual(talk.reply(purge(1, "q", 1)), [])
        self.assertEqual(talk.told(), [0, 0, 1, 0, 0])
        for bits in (2, 4, 128):
            self.assertEqual(talk.reply(purge(1, "q", bits)), method(1, 50, 31, num(0, 4)))

    def test_purged_though_it_is_not_there(self):
        for name in ("q", "", "a b"):
            self.assertEqual(up().reply(purge(1, name, 1)), channel_fault(1, 404, 50, 30))

    def test_deleted(self):
        talk = up().say(declare_queue(1, "q", 16), declare_queue(1, "p", 16), post(1, "", "q", "a"))
        talk.say(post(1, "", "q", "b"), post(1, "", "p", "c"))
        self.assertEqual(talk.reply(delete_queue(1, "q")), method(1, 50, 41, num(2, 4)))
        self.assertEqual(talk.told(), [0, 0, 1, 1, 0])
        self.assertEqual(talk.reply(declare_queue(1, "q")), queue_declared(1, "q"))

    def test_deleted_quietly(self):
        talk = up().say(declare_queue(1, "q", 16), post(1, "", "q", "a"))
        self.assertEqual(talk.reply(delete_queue(1, "q", 4)), [])
        self.assertEqual(talk.told(), [0, 0, 0, 0, 0])

    def test_deleted_though_it_is_not_there(self):
        for name in ("q", "", "a b"):
            for bits in (0, 3, 4):
                self.assertEqual(up().reply(delete_queue(1, name, bits)), channel_fault(1, 404, 50, 40))

    def test_not_deleted_if_somebody_takes(self):
        talk = up().say(declare_queue(1, "q", 16), consume(1, "q", "t", 8))
        self.assertEqual(talk.reply(delete_queue(1, "q", 1)), channel_fault(1, 406, 50, 40))
        self.assertEqual(talk.told(), [0, 0, 1, 0, 0])

    def test_not_deleted_if_something_waits(self):
        talk = up().say(declare_queue(1, "q", 16), post(1, "", "q", "a"))
        self.assertEqual(talk.reply(delete_queue(1, "q", 2)), channel_fault(1, 406, 50, 40))
        self.assertEqual(talk.told(), [0, 0, 1, 1, 0])

    def test_deleted_by_the_other_bit(self):
        talk = up().say(declare_queue(1, "q", 16), post(1, "", "q", "a"), declare_queue(1, "p", 16))
        talk.say(consume(1, "p", "t", 8))
        self.assertEqual(talk.reply(delete_queue(1, "q", 1)), method(1, 50, 41, num(1, 4)))
        self.assertEqual(talk.reply(delete_queue(1, "p", 2)), method(1, 50, 41, num(0, 4)))
        self.assertEqual(talk.told(), [0, 0, 0, 0, 0])

    def test_deleted_by_both_bits(self):
        talk = up().say(declare_queue(1, "q", 16), post(1, "", "q", "a"), get(1, "q")).add(3, 0, 65536)
        self.assertEqual(talk.reply(delete_queue(1, "q", 3)), method(1, 50, 41, num(0, 4)))

    def test_takers_go_with_it(self):
        talk = up().say(declare_queue(1, "q", 16), consume(1, "q", "t", 8), delete_queue(1, "q", 4))
        self.assertEqual(talk.told(), [0, 0, 0, 0, 0])
        talk.say(declare_queue(1, "q", 16), post(1, "", "q", "a"))
        self.assertEqual(talk.told(), [0, 0, 1, 1, 0])
        self.assertEqual(talk.reply(consume(1, "q", "t")),
                         method(1, 60, 21, text("t")) + delivered(1, "t", 1, "", "q", "a"))


class Bindings(unittest.TestCase):
    def ready(self):
        talk = up().say(declare_exchange(1, "x", "direct", 16), declare_exchange(1, "y", "direct", 16))
        return talk.say(declare_queue(1, "q", 16), declare_queue(1, "p", 16))

    def test_bound(self):
        talk = self.ready()
        self.assertEqual(talk.reply(bind(1, "q", "x", "k")), method(1, 50, 21))
        self.assertEqual(talk.told(), [2, 1, 2, 0, 0])
        self.assertEqual(talk.reply(post(1, "x", "k", "a"), get(1, "q")), got(1, 1, "x", "k", 0, "a"))

    def test_bound_once(self):
        talk = self.ready().say(bind(1, "q", "x", "k", 1))
        self.assertEqual(talk.reply(bind(1, "q", "x", "k")), method(1, 50, 21))
        self.assertEqual(talk.told(), [2, 1, 2, 0, 0])
        talk.say(bind(1, "q", "x", "l", 1), bind(1, "p", "x", "k", 1), bind(1, "q", "y", "k", 1))
        self.assertEqual(talk.told(), [2, 4, 2, 0, 0])

    def test_keys_of_any_bytes(self):
        key = [0, 32, 255] * 85
        talk = self.ready().say(bind(1, "q", "x", key, 1), bind(1, "p", "x", "", 1))
        talk.say(post(1, "x", key), post(1, "x", ""), post(1, "x", key[:-1]))
        self.assertEqual(talk.told(), [2, 2, 2, 2, 0])
        self.assertEqual(talk.reply(get(1, "q")), got(1, 1, "x", key, 0))

    def test_quietly(self):
        talk = self.ready()
        self.assertEqual(talk.reply(bind(1, "q", "x", "k", 1)), [])
        self.assertEqual(talk.told(), [2, 1, 2, 0, 0])
        for bits in (2, 16, 128):
            self.assertEqual(talk.reply(bind(1, "q", "x", "k", bits)), method(1, 50, 21))

    def test_no_such_queue_or_exchange(self):
        for queue, exchange in (("n", "x"), ("q", "n"), ("n", "n"), ("", "x"), ("q", ""), ("", ""), ("x", "q")):
            talk = self.ready()
            self.assertEqual(talk.reply(bind(1, queue, exchange, "k", 1)), channel_fault(1, 404, 50, 20))
            self.assertEqual(talk.told(), [2, 0, 2, 0, 0])
            self.assertEqual(self.ready().reply(unbind(1, queue, exchange, "k")), channel_fault(1, 404, 50, 50))

    def test_unbound(self):
        talk = self.ready().say(bind(1, "q", "x", "k", 1), bind(1, "q", "x", "l", 1), bind(1, "p", "x", "k", 1))
        self.assertEqual(talk.reply(unbind(1, "q", "x", "k")), method(1, 50, 51))
        self.assertEqual(talk.told(), [2, 2, 2, 0, 0])
        talk.say(post(1, "x", "k"), post(1, "x", "l"))
        self.assertEqual(talk.reply(declare_queue(1, "q"), declare_queue(1, "p")),
                         queue_declared(1, "q", 1) + queue_declared(1, "p", 1))

    def test_unbound_though_it_is_not_bound(self):
        talk = self.ready().say(bind(1, "q", "x", "k", 1))
        self.assertEqual(talk.reply(unbind(1, "q", "x", "l"), unbind(1, "q", "y", "k")), method(1, 50, 51) * 2)
        self.assertEqual(talk.told(), [2, 1, 2, 0, 0])

    def full(self):
        talk = self.ready()
        return talk.say(*[bind(1, "q", "x", [number], 1) for number in range(256)])

    def test_two_hundred_and_fifty_six(self):
        talk = self.full()
        self.assertEqual(talk.told(), [2, 256, 2, 0, 0])
        self.assertEqual(talk.reply(bind(1, "q", "x", [255])), method(1, 50, 21))
        self.assertEqual(talk.reply(bind(1, "p", "x", [0])), channel_fault(1, 406, 50, 20))
        self.assertEqual(talk.told(), [2, 256, 2, 0, 0])
        self.assertEqual(self.full().reply(bind(1, "n", "x", [0])), channel_fault(1, 404, 50, 20))

    def test_place_for_another_when_one_is_unbound(self):
        talk = self.full().say(unbind(1, "q", "x", [9])).add(3, 0, 65536)
        self.assertEqual(talk.reply(bind(1, "p", "y", "")), method(1, 50, 21))
        self.assertEqual(talk.told(), [2, 256, 2, 0, 0])

    def test_bindings_go_with_the_queue(self):
        talk = self.ready().say(bind(1, "q", "x", "k", 1), bind(1, "q", "y", "l", 1), bind(1, "p", "x", "k", 1))
        talk.say(delete_queue(1, "q", 4))
        self.assertEqual(talk.told(), [2, 1, 1, 0, 0])
        talk.say(declare_queue(1, "q", 16), post(1, "x", "k"))
        self.assertEqual(talk.told(), [2, 1, 2, 1, 0])
        self.assertEqual(talk.reply(get(1, "p")), got(1, 1, "x", "k", 0))

    def test_another_line_sees_all(self):
        talk = self.ready().up(1)
        self.assertEqual(talk.reply(bind(1, "q", "x", "k"), line=1), method(1, 50, 21))
        self.assertEqual(talk.reply(declare_exchange(1, "x", "topic"), line=1), channel_fault(1, 406, 40, 10))


if __name__ == "__main__":
    unittest.main()
