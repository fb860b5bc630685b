"""Takers and their turns, what is handed out, owned up to and given back."""

import unittest

from tests.helper import (
    CLOSE_LINE, LINE_CLOSED, ack, bind, cancel, channel_close, channel_closed, channel_fault, channel_open,
    channel_opened, consume, consuming, declare_exchange, declare_queue, delete_queue, delivered, frame, get, got,
    got_none, limit, line_fault, method, num, post, purge, queue_declared, recover, reject, text, up,
)

RECOVERED = method(1, 60, 111)


def ready(*letters, channels=(1,)):
    """A line that's up, with a queue q in which these wait."""
    talk = up(channels=channels).say(declare_queue(1, "q", 16))
    return talk.say(*[post(1, "", "q", letter) for letter in letters])


def gave(number, letters, before=0, tag="t", channel=1):
    return delivered(channel, tag, number, "", "q", letters, before)


class Taking(unittest.TestCase):
    def test_takes(self):
        talk = ready()
        self.assertEqual(talk.reply(consume(1, "q", "t")), consuming(1, "t"))
        self.assertEqual(talk.told(), [0, 0, 1, 0, 1])
        self.assertEqual(talk.reply(post(1, "", "q", "a")), gave(1, "a"))
        self.assertEqual(talk.reply(post(1, "", "q", "")), gave(2, ""))

    def test_the_very_bytes(self):
        told = [1, 0, 1, 0, 0, 0, 18, 0, 60, 0, 60, 1, 116, 0, 0, 0, 0, 0, 0, 0, 1, 0, 0, 1, 113, 206]
        head = [2, 0, 1, 0, 0, 0, 14, 0, 60, 0, 0, 0, 0, 0, 0, 0, 0, 0, 1, 0, 0, 206]
        self.assertEqual(ready("a").reply(consume(1, "q", "t", 8)), told + head + [3, 0, 1, 0, 0, 0, 1, 97, 206])

    def test_takes_what_waits(self):
        self.assertEqual(ready("a", "b").reply(consume(1, "q", "t")), consuming(1, "t") + gave(1, "a") + gave(2, "b"))

    def test_exchange_and_key_as_they_came(self):
        talk = ready().say(declare_exchange(1, "x", "topic", 16), bind(1, "q", "x", "k.#", 1))
        talk.say(consume(1, "q", "t", 8))
        self.assertEqual(talk.reply(post(1, "x", "k.l", "a")), delivered(1, "t", 1, "x", "k.l", "a"))

    def test_no_such_queue(self):
        for name in ("n", "", "a b"):
            self.assertEqual(ready().reply(consume(1, name, "a b")), channel_fault(1, 404, 60, 20))

    def test_tags_that_are_not_names(self):
        for tag in ("a b", "a" * 65, [127], [200], " "):
            talk = ready()
            self.assertEqual(talk.reply(consume(1, "q", tag, 8)), channel_fault(1, 403, 60, 20))
            self.assertEqual(talk.told(), [0, 0, 1, 0, 0])
        self.assertEqual(ready().reply(consume(1, "q", "a" * 64)), consuming(1, "a" * 64))

    def test_tags_by_the_house(self):
        talk = ready(channels=(1, 8)).up(3, channels=(8,))
        self.assertEqual(talk.reply(consume(1, "q")), consuming(1, "ctag1.1"))
        self.assertEqual(talk.reply(consume(8, "q")), consuming(8, "ctag8.2"))
        self.assertEqual(talk.reply(consume(8, "q"), line=3), consuming(8, "ctag8.3"))
        self.assertEqual(talk.reply(cancel(8, "ctag8.2"), consume(8, "q")),
                         method(8, 60, 31, text("ctag8.2")) + consuming(8, "ctag8.3"))
        self.assertEqual(talk.reply(*[consume(1, "q", "", 8) for time in range(6)], consume(1, "q")),
                         consuming(1, "ctag1.10"))

    def test_a_tag_that_is_there(self):
        talk = ready().say(declare_queue(1, "p", 16), consume(1, "q", "t", 8))
        self.assertEqual(talk.reply(consume(1, "p", "t")), line_fault(530, 60, 20))
        self.assertEqual(talk.told(), [0, 0, 2, 0, 0])

    def test_a_tag_by_the_house_that_is_there(self):
        talk = ready().say(consume(1, "q", "ctag1.2", 8))
        self.assertEqual(talk.reply(consume(1, "q")), line_fault(530, 60, 20))

    def test_a_tag_on_another_channel(self):
        talk = ready(channels=(1, 2)).up(1).say(consume(1, "q", "t", 8))
        self.assertEqual(talk.reply(consume(2, "q", "t")), consuming(2, "t"))
        self.assertEqual(talk.reply(consume(1, "q", "t"), line=1), consuming(1, "t"))
        self.assertEqual(talk.told(), [0, 0, 1, 0, 3])

    def full(self):
        talk = ready(channels=(1, 2)).up(1)
        talk.say(*[consume(1 + number % 2, "q", f"t{number}", 8) for number in range(40)])
        return talk.say(*[consume(1, "q", f"t{number}", 8) for number in range(24)], line=1)

    def test_sixty_four(self):
        talk = self.full()
        self.assertEqual(talk.told(), [0, 0, 1, 0, 64])
        self.assertEqual(talk.reply(consume(2, "q", "u", 8)), channel_fault(2, 406, 60, 20))
        self.assertEqual(talk.told(), [0, 0, 1, 0, 44])
        self.assertEqual(talk.reply(consume(1, "q", "u")), consuming(1, "u"))

    def test_what_goes_before_sixty_four(self):
        self.assertEqual(self.full().reply(consume(1, "n", "u")), channel_fault(1, 404, 60, 20))
        self.assertEqual(self.full().reply(consume(1, "q", "a b")), channel_fault(1, 403, 60, 20))
        self.assertEqual(self.full().reply(consume(1, "q", "t0")), line_fault(530, 60, 20))
        self.assertEqual(self.full().reply(consume(1, "q")), channel_fault(1, 406, 60, 20))

    def test_bits(self):
        for bits in (1, 2, 4, 16, 128):
            self.assertEqual(ready().reply(consume(1, "q", "t", bits)), consuming(1, "t"))
        self.assertEqual(ready("a").reply(consume(1, "q", "t", 8)), gave(1, "a"))

    def test_cancelled(self):
        talk = ready().say(consume(1, "q", "t", 8), consume(1, "q", "u", 8))
        self.assertEqual(talk.reply(cancel(1, "t")), method(1, 60, 31, text("t")))
        self.assertEqual(talk.told(), [0, 0, 1, 0, 1])
        self.assertEqual(talk.reply(post(1, "", "q", "a"), post(1, "", "q", "b")),
                         gave(1, "a", tag="u") + gave(2, "b", tag="u"))
        self.assertEqual(talk.reply(cancel(1, "u", 1), post(1, "", "q", "c")), [])
        self.assertEqual(talk.told(), [0, 0, 1, 1, 0])

    def test_cancelled_though_it_does_not_take(self):
        for tag in ("t", "", "a b", [200] * 255):
            self.assertEqual(ready().reply(cancel(1, tag)), method(1, 60, 31, text(tag)))
            self.assertEqual(ready().reply(cancel(1, tag, 1)), [])
            self.assertEqual(ready().reply(cancel(1, tag, 2)), method(1, 60, 31, text(tag)))

    def test_cancelled_on_its_own_channel_alone(self):
        talk = ready(channels=(1, 2)).say(consume(1, "q", "t", 8), consume(2, "q", "t", 8), cancel(2, "t", 1))
        self.assertEqual(talk.told(), [0, 0, 1, 0, 1])
        self.assertEqual(talk.reply(post(2, "", "q", "a")), gave(1, "a"))

    def test_what_a_cancelled_one_took_is_still_handed_out(self):
        talk = ready("a").say(consume(1, "q", "t", 8), cancel(1, "t", 1)).add(3, 0, 65536)
        self.assertEqual(talk.told(), [0, 0, 1, 0, 0])
        self.assertEqual(talk.reply(reject(1, 1, 1), get(1, "q")), got(1, 2, "", "q", 0, "a", 1))

    def test_the_tag_is_free_again(self):
        talk = ready().say(consume(1, "q", "t", 8), cancel(1, "t", 1))
        self.assertEqual(talk.reply(consume(1, "q", "t")), consuming(1, "t"))


class Turns(unittest.TestCase):
    def test_round_and_round(self):
        talk = ready().say(*[consume(1, "q", tag, 8) for tag in "abc"])
        row = talk.reply(*[post(1, "", "q", letter) for letter in "12345"])
        expected = [gave(place + 1, letter, tag="abc"[place % 3]) for place, letter in enumerate("12345")]
        self.assertEqual(row, sum(expected, []))

    def test_over_lines(self):
        talk = ready(channels=(1, 2)).up(1).say(consume(1, "q", "a", 8), consume(2, "q", "b", 8))
        talk.say(consume(1, "q", "c", 8), line=1).add(3, 0, 65536)
        talk.say(*[post(1, "", "q", letter) for letter in "1234"])
        self.assertEqual(talk.hear(), gave(1, "1", tag="a") + gave(1, "2", tag="b", channel=2) + gave(2, "4", tag="a"))
        self.assertEqual(talk.hear(1), gave(1, "3", tag="c"))

    def test_a_new_one_comes_last(self):
        talk = ready().say(consume(1, "q", "a", 8), consume(1, "q", "b", 8), post(1, "", "q", "1")).add(3, 0, 65536)
        talk.say(consume(1, "q", "c", 8))
        row = talk.reply(*[post(1, "", "q", letter) for letter in "2345"])
        self.assertEqual(row, gave(2, "2", tag="b") + gave(3, "3", tag="a") + gave(4, "4", tag="c")
                         + gave(5, "5", tag="b"))

    def test_one_that_may_not_is_passed_by_and_keeps_its_turn(self):
        talk = ready(channels=(1, 2, 3)).say(limit(1, 1)).add(3, 0, 65536)
        talk.say(consume(1, "q", "a", 8), consume(2, "q", "b", 8), consume(3, "q", "c", 8))
        talk.say(*[post(3, "", "q", letter) for letter in "12345"])
        self.assertEqual(talk.hear(), gave(1, "1", tag="a", channel=1) + gave(1, "2", tag="b", channel=2)
                         + gave(1, "3", tag="c", channel=3) + gave(2, "4", tag="b", channel=2)
                         + gave(2, "5", tag="c", channel=3))
        # The first has been the first ever since.
        self.assertEqual(talk.reply(ack(1, 1), post(3, "", "q", "6"), post(3, "", "q", "7")),
                         gave(2, "6", tag="a", channel=1) + gave(3, "7", tag="b", channel=2))

    def test_queues_in_the_order_of_their_making(self):
        talk = up().say(declare_exchange(1, "x", "fanout", 16))
        talk.say(*[declare_queue(1, name, 16) for name in ("c", "a", "b")])
        talk.say(*[bind(1, name, "x", "", 1) for name in ("b", "a", "c")])
        talk.say(*[consume(1, name, f"t{name}", 8) for name in ("a", "b", "c")])
        row = talk.reply(post(1, "x", "k", "1"))
        self.assertEqual(row, delivered(1, "tc", 1, "x", "k", "1") + delivered(1, "ta", 2, "x", "k", "1")
                         + delivered(1, "tb", 3, "x", "k", "1"))

    def test_a_queue_made_anew_is_the_last(self):
        talk = up().say(declare_exchange(1, "x", "fanout", 16))
        talk.say(declare_queue(1, "a", 16), declare_queue(1, "b", 16), delete_queue(1, "a", 4))
        talk.say(declare_queue(1, "a", 16), declare_queue(1, "b", 16))
        talk.say(*[bind(1, name, "x", "", 1) + consume(1, name, f"t{name}", 8) for name in ("a", "b")])
        self.assertEqual(talk.reply(post(1, "x", "k")), delivered(1, "tb", 1, "x", "k") + delivered(1, "ta", 2, "x", "k"))

    def test_each_queue_as_far_as_it_goes(self):
        talk = up(channels=(1, 2)).say(declare_queue(1, "a", 16), declare_queue(1, "b", 16))
        talk.say(limit(1, 3)).add(3, 0, 65536)
        talk.say(*[post(2, "", name, letter) for name, letter in (("b", "1"), ("a", "2"), ("b", "3"), ("a", "4"))])
        # One that may take nothing while its channel has three.
        talk.say(declare_queue(1, "z", 16), *[post(2, "", "z") + get(1, "z") for time in range(3)])
        talk.say(consume(1, "b", "tb", 8), consume(1, "a", "ta", 8)).add(3, 0, 65536)
        self.assertEqual(talk.reply(ack(1, 0, 1)), delivered(1, "ta", 4, "", "a", "2") + delivered(1, "ta", 5, "", "a", "4")
                         + delivered(1, "tb", 6, "", "b", "1"))

    def test_behind_all_else_of_a_frame(self):
        talk = ready(channels=(1, 2)).say(consume(2, "q", "u", 8), post(1, "", "q", "a")).add(3, 0, 65536)
        talk.say(consume(1, "q", "t", 8))
        # The channel goes and its answer is sent; then what it gave back is handed on.
        self.assertEqual(talk.reply(channel_close(2)), channel_closed(2) + gave(1, "a", 1))
        self.assertEqual(talk.reply(recover(1)), RECOVERED + gave(2, "a", 1))
        talk.say(limit(1, 1), post(1, "", "q", "b")).add(3, 0, 65536)
        self.assertEqual(talk.reply(limit(1, 2)), method(1, 60, 11) + gave(3, "b"))

    def test_behind_a_channel_fault(self):
        talk = ready(channels=(1, 2)).say(consume(2, "q", "u", 8), post(1, "", "q", "a"))
        talk.say(consume(1, "q", "t", 8)).add(3, 0, 65536)
        self.assertEqual(talk.reply(get(2, "none")), channel_fault(2, 404, 60, 70) + gave(1, "a", 1))


class Limits(unittest.TestCase):
    def test_answer(self):
        self.assertEqual(up().reply(limit(1, 3)), method(1, 60, 11))
        self.assertEqual(up().reply(method(1, 60, 10, num(1, 4), num(0, 2), [1])), method(1, 60, 11))

    def test_any_at_first(self):
        talk = ready(*["a"] * 50).say(consume(1, "q", "t"))
        self.assertEqual(talk.told(), [0, 0, 1, 0, 1])

    def test_so_many(self):
        talk = ready(*"abcde").say(limit(1, 2), consume(1, "q", "t", 8))
        self.assertEqual(talk.hear(), method(1, 60, 11) + gave(1, "a") + gave(2, "b"))
        self.assertEqual(talk.reply(ack(1, 2)), gave(3, "c"))
        self.assertEqual(talk.reply(ack(1, 3, 1)), gave(4, "d") + gave(5, "e"))
        self.assertEqual(talk.told(), [0, 0, 1, 0, 1])

    def test_only_the_two_bytes_count(self):
        talk = ready(*"abc").say(method(1, 60, 10, num(1, 4), num(2, 2), [1]), consume(1, "q", "t", 8))
        self.assertEqual(talk.told(), [0, 0, 1, 1, 1])
        talk = ready(*"abc").say(method(1, 60, 10, num(1, 4), num(256, 2), [0]), consume(1, "q", "t", 8))
        self.assertEqual(talk.told(), [0, 0, 1, 0, 1])

    def test_of_the_channel_not_of_the_taker(self):
        talk = ready(*"abcd", channels=(1, 2)).say(limit(1, 2)).add(3, 0, 65536)
        talk.say(consume(1, "q", "t", 8), consume(1, "q", "u", 8))
        self.assertEqual(talk.hear(), gave(1, "a") + gave(2, "b"))
        self.assertEqual(talk.reply(consume(2, "q", "v", 8)),
                         gave(1, "c", tag="v", channel=2) + gave(2, "d", tag="v", channel=2))

    def test_changed(self):
        talk = ready(*"abcdef").say(limit(1, 2), consume(1, "q", "t", 8)).add(3, 0, 65536)
        self.assertEqual(talk.reply(limit(1, 1)), method(1, 60, 11))
        self.assertEqual(talk.reply(ack(1, 1)), [])
        self.assertEqual(talk.reply(ack(1, 2)), gave(3, "c"))
        self.assertEqual(talk.reply(limit(1, 3)), method(1, 60, 11) + gave(4, "d") + gave(5, "e"))
        self.assertEqual(talk.reply(limit(1, 0)), method(1, 60, 11) + gave(6, "f"))

    def test_what_is_got_counts(self):
        talk = ready(*"abc").say(limit(1, 1), get(1, "q"), consume(1, "q", "t", 8)).add(3, 0, 65536)
        self.assertEqual(talk.told(), [0, 0, 1, 2, 1])
        # It may be asked for all the same.
        self.assertEqual(talk.reply(get(1, "q")), got(1, 2, "", "q", 1, "b"))
        self.assertEqual(talk.reply(ack(1, 1)), [])
        self.assertEqual(talk.reply(ack(1, 2)), gave(3, "c"))

    def test_freely(self):
        talk = ready(*"abc").say(limit(1, 1), consume(1, "q", "t", 10)).add(3, 0, 65536)
        self.assertEqual(talk.told(), [0, 0, 1, 0, 1])
        self.assertEqual(talk.reply(post(1, "", "q", "d")), gave(4, "d"))

    def test_freely_though_the_channel_has_all_it_may(self):
        talk = ready(*"abc").say(limit(1, 1), get(1, "q"), consume(1, "q", "t", 8)).add(3, 0, 65536)
        self.assertEqual(talk.reply(consume(1, "q", "u", 10)), gave(2, "b", tag="u") + gave(3, "c", tag="u"))
        self.assertEqual(talk.reply(ack(1, 1), post(1, "", "q", "d"), post(1, "", "q", "e")),
                         gave(4, "d", tag="t") + gave(5, "e", tag="u"))

    def test_freely_does_not_count(self):
        talk = ready(*"ab").say(limit(1, 1), consume(1, "q", "u", 10), cancel(1, "u", 1)).add(3, 0, 65536)
        talk.say(consume(1, "q", "t", 8))
        self.assertEqual(talk.reply(post(1, "", "q", "c"), post(1, "", "q", "d")), gave(3, "c"))

    def test_a_new_channel_has_none(self):
        talk = ready(*"ab").say(limit(1, 1), channel_close(1), channel_open(1)).add(3, 0, 65536)
        self.assertEqual(talk.reply(consume(1, "q", "t", 8)), gave(1, "a") + gave(2, "b"))


class Getting(unittest.TestCase):
    def test_nothing_waits(self):
        self.assertEqual(ready().reply(get(1, "q")), [1, 0, 1, 0, 0, 0, 5, 0, 60, 0, 72, 0, 206])

    def test_no_such_queue(self):
        for name in ("n", "", "a b"):
            self.assertEqual(ready("a").reply(get(1, name)), channel_fault(1, 404, 60, 70))

    def test_the_first(self):
        talk = ready(*"abc")
        self.assertEqual(talk.reply(get(1, "q")), got(1, 1, "", "q", 2, "a"))
        self.assertEqual(talk.told(), [0, 0, 1, 2, 0])
        self.assertEqual(talk.reply(get(1, "q")), got(1, 2, "", "q", 1, "b"))

    def test_freely(self):
        for bits in (1, 255):
            talk = ready("a").say(get(1, "q", bits)).add(3, 0, 65536)
            self.assertEqual(talk.reply(ack(1, 1)), channel_fault(1, 406, 60, 80))
        for bits in (0, 2, 254):
            talk = ready("a").say(get(1, "q", bits)).add(3, 0, 65536)
            self.assertEqual(talk.reply(ack(1, 1)), [])

    def test_freely_takes_a_number(self):
        self.assertEqual(ready("a", "b").reply(get(1, "q", 1), get(1, "q")),
                         got(1, 1, "", "q", 1, "a") + got(1, 2, "", "q", 0, "b"))

    def test_numbers_are_the_channel_s(self):
        talk = ready(*"abcd", channels=(1, 2)).say(declare_queue(1, "p", 16), post(1, "", "p", "e"))
        self.assertEqual(talk.reply(get(1, "q"), get(2, "q"), get(1, "p"), get(2, "q")),
                         got(1, 1, "", "q", 3, "a") + got(2, 1, "", "q", 2, "b") + got(1, 2, "", "p", 0, "e")
                         + got(2, 2, "", "q", 1, "c"))


class OwningUp(unittest.TestCase):
    def handed(self, *letters):
        return ready(*letters).say(consume(1, "q", "t", 8)).add(3, 0, 65536)

    def left(self, talk):
        """The letters that are handed out still, told by having them given back."""
        talk.say(cancel(1, "t", 1), recover(1), *[get(1, "q", 1) for time in range(6)])
        row = talk.hear()
        return [chr(row[place + 7]) for place in range(len(row) - 8) if row[place:place + 7] == [3, 0, 1, 0, 0, 0, 1]]

    def test_to_one(self):
        talk = self.handed(*"abcd").say(ack(1, 2))
        self.assertEqual(talk.hear(), [])
        self.assertEqual(self.left(talk), ["a", "c", "d"])

    def test_twice(self):
        self.assertEqual(self.handed(*"abc").reply(ack(1, 2), ack(1, 2)), channel_fault(1, 406, 60, 80))

    def test_to_several(self):
        for number, left in ((1, "bcd"), (2, "cd"), (4, ""), (5, ""), (2 ** 64 - 1, "")):
            self.assertEqual(self.left(self.handed(*"abcd").say(ack(1, number, 1))), list(left))

    def test_to_several_with_gaps(self):
        talk = self.handed(*"abcd").say(ack(1, 2), ack(1, 2, 1))
        self.assertEqual(self.left(talk), ["c", "d"])

    def test_to_all(self):
        self.assertEqual(self.left(self.handed(*"abcd").say(ack(1, 0, 1))), [])

    def test_to_all_of_none(self):
        self.assertEqual(self.handed().reply(ack(1, 0, 1), ack(1, 0, 255)), [])

    def test_to_none(self):
        for number, bits in ((0, 0), (5, 0), (2 ** 64 - 1, 0), (0, 2), (2 ** 32 + 1, 0), (257, 0)):
            talk = self.handed(*"abcd")
            self.assertEqual(talk.reply(ack(1, number, bits)), channel_fault(1, 406, 60, 80))
            self.assertEqual(talk.told(), [0, 0, 1, 4, 0])
        self.assertEqual(self.handed(*"abcd").reply(ack(1, 2, 1), ack(1, 2, 1)), channel_fault(1, 406, 60, 80))
        self.assertEqual(self.handed().reply(ack(1, 3, 1)), channel_fault(1, 406, 60, 80))

    def test_on_its_own_channel_alone(self):
        talk = ready("a", channels=(1, 2)).say(get(1, "q")).add(3, 0, 65536)
        self.assertEqual(talk.reply(ack(2, 1)), channel_fault(2, 406, 60, 80))
        self.assertEqual(talk.reply(ack(1, 1)), [])

    def test_turned_down(self):
        talk = self.handed(*"abc")
        self.assertEqual(talk.reply(reject(1, 2)), [])
        self.assertEqual(talk.told(), [0, 0, 1, 0, 1])
        self.assertEqual(self.left(talk), ["a", "c"])

    def test_turned_down_though_none(self):
        for number in (0, 4, 2 ** 64 - 1):
            for bits in (0, 1):
                self.assertEqual(self.handed(*"abc").reply(reject(1, number, bits)), channel_fault(1, 406, 60, 90))
        self.assertEqual(self.handed(*"abc").reply(reject(1, 1), reject(1, 1, 1)), channel_fault(1, 406, 60, 90))

    def test_turned_down_bits(self):
        for bits in (2, 254):
            self.assertEqual(self.handed("a").reply(reject(1, 1, bits)), [])
        for bits in (1, 255):
            self.assertEqual(self.handed("a").reply(reject(1, 1, bits)), gave(2, "a", 1))


class GivingBack(unittest.TestCase):
    def test_one_before_all_that_wait(self):
        talk = ready(*"abcd").say(get(1, "q"), get(1, "q"), reject(1, 1, 1)).add(3, 0, 65536)
        self.assertEqual(talk.reply(get(1, "q"), get(1, "q")), got(1, 3, "", "q", 2, "a", 1) + got(1, 4, "", "q", 1, "c"))

    def test_one_after_another(self):
        for first, second, order in ((1, 2, "ba"), (2, 1, "ab")):
            talk = ready(*"abc").say(get(1, "q"), get(1, "q"), reject(1, first, 1), reject(1, second, 1))
            talk.add(3, 0, 65536)
            self.assertEqual(talk.reply(get(1, "q"), get(1, "q"), get(1, "q")),
                             got(1, 3, "", "q", 2, order[0], 1) + got(1, 4, "", "q", 1, order[1], 1)
                             + got(1, 5, "", "q", 0, "c"))

    def test_all_as_they_were_handed_out(self):
        talk = ready(*"abcd").say(get(1, "q"), get(1, "q"), get(1, "q"), ack(1, 2)).add(3, 0, 65536)
        self.assertEqual(talk.reply(recover(1)), RECOVERED)
        self.assertEqual(talk.told(), [0, 0, 1, 3, 0])
        self.assertEqual(talk.reply(*[get(1, "q")] * 3), got(1, 4, "", "q", 2, "a", 1) + got(1, 5, "", "q", 1, "c", 1)
                         + got(1, 6, "", "q", 0, "d"))

    def test_order_of_handing_out_not_of_putting(self):
        talk = ready(*"abc").say(get(1, "q"), get(1, "q"), reject(1, 1, 1), get(1, "q"), recover(1)).add(3, 0, 65536)
        # b was handed out as 2, a as 3.
        self.assertEqual(talk.reply(*[get(1, "q")] * 3), got(1, 4, "", "q", 2, "b", 1) + got(1, 5, "", "q", 1, "a", 1)
                         + got(1, 6, "", "q", 0, "c"))

    def test_all_of_none(self):
        for bits in (0, 1, 255):
            self.assertEqual(ready().reply(method(1, 60, 110, [bits])), RECOVERED)

    def test_all_of_the_channel_s_alone(self):
        talk = ready(*"ab", channels=(1, 2)).say(get(1, "q"), get(2, "q"), recover(1)).add(3, 0, 65536)
        self.assertEqual(talk.told(), [0, 0, 1, 1, 0])
        self.assertEqual(talk.reply(get(1, "q"), get(1, "q")), got(1, 2, "", "q", 0, "a", 1) + got_none(1))

    def test_from_several_queues(self):
        talk = ready(*"ab").say(declare_queue(1, "p", 16), post(1, "", "p", "c"), post(1, "", "p", "d"))
        talk.say(get(1, "p"), get(1, "q"), get(1, "p"), get(1, "q"), recover(1)).add(3, 0, 65536)
        self.assertEqual(talk.reply(get(1, "q"), get(1, "q"), get(1, "p"), get(1, "p")),
                         got(1, 5, "", "q", 1, "a", 1) + got(1, 6, "", "q", 0, "b", 1)
                         + got(1, 7, "", "p", 1, "c", 1) + got(1, 8, "", "p", 0, "d", 1))

    def test_and_taken_again(self):
        talk = ready(*"ab").say(consume(1, "q", "t", 8)).add(3, 0, 65536)
        self.assertEqual(talk.reply(recover(1)), RECOVERED + gave(3, "a", 1) + gave(4, "b", 1))
        self.assertEqual(talk.reply(ack(1, 1)), channel_fault(1, 406, 60, 80))

    def test_what_is_taken_freely_is_not_given_back(self):
        talk = ready(*"ab").say(get(1, "q", 1), consume(1, "q", "t", 10)).add(3, 0, 65536)
        self.assertEqual(talk.reply(recover(1)), RECOVERED)
        self.assertEqual(talk.reply(channel_close(1)), channel_closed(1))
        self.assertEqual(talk.told(), [0, 0, 1, 0, 0])

    def test_handed_out_before_is_of_the_one_in_that_queue(self):
        talk = up().say(declare_exchange(1, "x", "fanout", 16))
        talk.say(*[declare_queue(1, name, 16) + bind(1, name, "x", "", 1) for name in "qp"])
        talk.say(post(1, "x", "k", "a"), get(1, "q"), reject(1, 1, 1)).add(3, 0, 65536)
        self.assertEqual(talk.reply(get(1, "p"), get(1, "q")), got(1, 2, "x", "k", 0, "a") + got(1, 3, "x", "k", 0, "a", 1))

    def test_handed_out_before_stays(self):
        talk = ready("a").say(get(1, "q"), recover(1), get(1, "q"), recover(1)).add(3, 0, 65536)
        self.assertEqual(talk.reply(consume(1, "q", "t", 8)), gave(3, "a", 1))


class ChannelsThatGo(unittest.TestCase):
    def test_in_the_order_of_their_opening(self):
        # 5 is opened before 2: first a and c are given back, then b and d before these.
        for end, answer in ((CLOSE_LINE, LINE_CLOSED), (method(0, 10, 99), line_fault(503, 10, 99)),
                            (frame(8, 0, [], 0), line_fault(501)), ([], [])):
            talk = up(channels=(5, 2)).up(1).say(declare_queue(5, "q", 16))
            talk.say(*[post(5, "", "q", letter) for letter in "abcde"])
            talk.say(get(5, "q"), get(2, "q"), get(5, "q"), get(2, "q")).add(3, 0, 65536)
            self.assertEqual(talk.reply(end), answer)
            if not end:
                talk.close()
            row = talk.reply(*[get(1, "q")] * 5, line=1)
            expected = [got(1, place + 1, "", "q", 4 - place, letter, int(letter != "e"))
                        for place, letter in enumerate("bdace")]
            self.assertEqual(row, sum(expected, []))

    def test_one_opened_anew_is_the_last(self):
        talk = up(channels=(5, 2)).up(1).say(channel_close(5), channel_open(5), declare_queue(5, "q", 16))
        talk.say(*[post(5, "", "q", letter) for letter in "ab"], get(5, "q"), get(2, "q"), CLOSE_LINE)
        self.assertEqual(talk.reply(get(1, "q"), get(1, "q"), line=1),
                         got(1, 1, "", "q", 1, "a", 1) + got(1, 2, "", "q", 0, "b", 1))

    def test_to_a_queue_that_is_gone(self):
        for end in (recover(1), reject(1, 1, 1), channel_close(1)):
            talk = ready("a").say(get(1, "q"), delete_queue(1, "q", 4), end)
            self.assertEqual(talk.told(), [0, 0, 0, 0, 0])
            talk.say(channel_open(2), declare_queue(2, "q", 16))
            self.assertEqual(talk.told(), [0, 0, 1, 0, 0])

    def test_to_a_queue_that_was_made_anew(self):
        for end in (recover(1), reject(1, 1, 1), channel_close(1) + channel_open(1), get(1, "n") + channel_closed(1)
                    + channel_open(1)):
            talk = ready("a").say(get(1, "q"), delete_queue(1, "q", 4), declare_queue(1, "q", 16))
            talk.say(post(1, "", "q", "b"), end).add(3, 0, 65536)
            talk.say(channel_open(3)).add(3, 0, 65536)
            self.assertEqual(talk.reply(get(3, "q"), get(3, "q")),
                             got(3, 1, "", "q", 1, "a", 1) + got(3, 2, "", "q", 0, "b"))

    def test_what_is_handed_out_may_be_owned_up_to_when_the_queue_is_gone(self):
        talk = ready("a").say(get(1, "q"), delete_queue(1, "q", 4)).add(3, 0, 65536)
        self.assertEqual(talk.reply(ack(1, 1)), [])

    def test_and_it_counts_till_then(self):
        talk = ready("a", "b").say(declare_queue(1, "p", 16), limit(1, 1), get(1, "q"), delete_queue(1, "q", 4))
        talk.say(post(1, "", "p", "c"), consume(1, "p", "t", 8)).add(3, 0, 65536)
        self.assertEqual(talk.told(), [0, 0, 1, 1, 1])
        self.assertEqual(talk.reply(ack(1, 1)), delivered(1, "t", 2, "", "p", "c"))

    def test_its_own_takers_do_not_get_it_back(self):
        talk = ready("a").say(consume(1, "q", "t", 8)).add(3, 0, 65536)
        self.assertEqual(talk.reply(channel_close(1)), channel_closed(1))
        self.assertEqual(talk.told(), [0, 0, 1, 1, 0])

    def test_only_its_own_takers_go(self):
        talk = ready(channels=(1, 2)).up(1).say(consume(1, "q", "t", 8), consume(2, "q", "t", 8))
        talk.say(consume(1, "q", "t", 8), line=1)
        self.assertEqual(talk.told(), [0, 0, 1, 0, 3])
        talk.say(channel_close(1))
        self.assertEqual(talk.told(), [0, 0, 1, 0, 2])
        talk.say(CLOSE_LINE)
        self.assertEqual(talk.told(), [0, 0, 1, 0, 1])
        talk.close(1)
        self.assertEqual(talk.told(), [0, 0, 1, 0, 0])


class ToldOf(unittest.TestCase):
    """Promise 4: the five numbers after each kind of change."""

    def test_each_change(self):
        talk = up(channels=(1, 2))
        steps = (
            (declare_exchange(1, "x", "fanout"), [1, 0, 0, 0, 0]),
            (declare_exchange(1, "y", "topic"), [2, 0, 0, 0, 0]),
            (declare_queue(1, "q"), [2, 0, 1, 0, 0]),
            (declare_queue(1, ""), [2, 0, 2, 0, 0]),
            (bind(1, "q", "x"), [2, 1, 2, 0, 0]),
            (bind(1, "q", "y", "#"), [2, 2, 2, 0, 0]),
            (bind(1, "amq.gen-1", "x"), [2, 3, 2, 0, 0]),
            (post(1, "x", "k", "a"), [2, 3, 2, 2, 0]),
            (post(1, "y", "k", "b"), [2, 3, 2, 3, 0]),
            (get(2, "q"), [2, 3, 2, 2, 0]),
            (reject(2, 1, 1), [2, 3, 2, 3, 0]),
            (limit(2, 1), [2, 3, 2, 3, 0]),
            (consume(2, "q", "t"), [2, 3, 2, 2, 1]),
            (consume(1, "amq.gen-1", "u", 2), [2, 3, 2, 1, 2]),
            (ack(2, 2), [2, 3, 2, 0, 2]),
            (cancel(1, "u"), [2, 3, 2, 0, 1]),
            (post(1, "x", "k", "c"), [2, 3, 2, 2, 1]),
            (purge(1, "amq.gen-1"), [2, 3, 2, 1, 1]),
            (recover(2), [2, 3, 2, 1, 1]),
            (channel_close(2), [2, 3, 2, 2, 0]),
            (delete_queue(1, "amq.gen-1"), [2, 2, 1, 2, 0]),
            (delete_queue(1, "q"), [2, 0, 0, 0, 0]),
            (delete_queue(1, "q"), [2, 0, 0, 0, 0]),
            (channel_closed(1) + channel_open(1), [2, 0, 0, 0, 0]),
            (declare_exchange(1, "x", "fanout"), [2, 0, 0, 0, 0]),
            (method(1, 40, 20, num(0, 2), text("x"), [0]), [1, 0, 0, 0, 0]),
            (CLOSE_LINE, [1, 0, 0, 0, 0]),
        )
        for row, told in steps:
            talk.say(row)
            self.assertEqual(talk.told(), told)
        self.assertEqual(talk.open(0).told(), [1, 0, 0, 0, 0])

    def test_shown_by_the_answers_too(self):
        talk = ready(*"abc").say(limit(1, 1), consume(1, "q", "t", 8)).add(3, 0, 65536)
        self.assertEqual(talk.reply(declare_queue(1, "q")), queue_declared(1, "q", 2, 1))
        self.assertEqual(talk.reply(channel_open(2)), channel_opened(2))


if __name__ == "__main__":
    unittest.main()
