"""The methods of a channel that is there."""

from handhouse.contents import Posting
from handhouse.contents import take_content
from handhouse.faults import ChannelFault
from handhouse.faults import LineFault
from handhouse.faults import Misfit
from handhouse.store import Queue
from handhouse.store import Taker
from handhouse.wire import METHOD
from handhouse.wire import codes
from handhouse.wire import has_bit
from handhouse.wire import method_of
from handhouse.wire import method_word
from handhouse.wire import number_bytes
from handhouse.wire import read_parts
from handhouse.wire import text_bytes

EXCHANGES_AT_MOST = 32
QUEUES_AT_MOST = 64
BINDINGS_AT_MOST = 256
TAKERS_AT_MOST = 64
NAME_AT_MOST = 64
KINDS = ("direct", "fanout", "topic")

FORMS = {
    "20 40": "2 text 2 2",
    "20 41": "",
    "40 10": "2 text text 1 table",
    "40 20": "2 text 1",
    "50 10": "2 text 1 table",
    "50 20": "2 text text text 1 table",
    "50 30": "2 text 1",
    "50 40": "2 text 1",
    "50 50": "2 text text text table",
    "60 10": "4 2 1",
    "60 20": "2 text text 1 table",
    "60 30": "text 1",
    "60 40": "2 text text 1",
    "60 70": "2 text 1",
    "60 80": "8 1",
    "60 90": "8 1",
    "60 110": "1",
}


def is_name(letters):
    return len(letters) <= NAME_AT_MOST and all([33 <= byte <= 126 for byte in letters])


def need_name(letters):
    if not is_name(letters):
        raise ChannelFault(403)


def need_queue(store, name):
    if name not in store.queues:
        raise ChannelFault(404)
    return store.queues[name]


def need_exchange(store, name):
    # The empty exchange is never among the store's, so it's refused here too.
    if name not in store.exchanges:
        raise ChannelFault(404)


def close_channel(store, channel, parts):
    channel.line.channels.pop(channel.place)
    store.let_go(channel)
    channel.answer(20, 41, [])


def confirm_close(store, channel, parts):
    raise LineFault(503)


def kind_word(letters):
    for word in KINDS:
        if codes(word) == letters:
            return word
    raise LineFault(503)


def make_exchange(store, name, kind):
    if name in store.exchanges:
        if store.exchanges[name] != kind:
            raise ChannelFault(406)
    elif len(store.exchanges) >= EXCHANGES_AT_MOST:
        raise ChannelFault(406)
    else:
        store.exchanges[name] = kind


def declare_exchange(store, channel, parts):
    name = parts[1]
    bits = parts[3]
    need_name(name)
    if len(name) == 0:
        raise ChannelFault(403)
    if has_bit(bits, 0):
        need_exchange(store, name)
    else:
        make_exchange(store, name, kind_word(parts[2]))
    if not has_bit(bits, 4):
        channel.answer(40, 11, [])


def delete_exchange(store, channel, parts):
    name = parts[1]
    bits = parts[2]
    if len(name) == 0:
        raise ChannelFault(403)
    if has_bit(bits, 0) and store.is_bound_to(name):
        raise ChannelFault(406)
    store.remove_exchange(name)
    if not has_bit(bits, 1):
        channel.answer(40, 21, [])


def generate_name(store):
    name = store.next_name()
    if name in store.queues:
        raise ChannelFault(405)
    store.generated = store.generated + 1
    return name


def make_queue(store, name, bits):
    """Makes the queue if it isn't there; answers its name, which is another if it was empty."""
    if name in store.queues:
        return name
    if has_bit(bits, 0):
        raise ChannelFault(404)
    if len(store.queues) >= QUEUES_AT_MOST:
        raise ChannelFault(406)
    if len(name) == 0:
        name = generate_name(store)
    store.queues[name] = Queue()
    return name


def declare_queue(store, channel, parts):
    bits = parts[2]
    need_name(parts[1])
    name = make_queue(store, parts[1], bits)
    if not has_bit(bits, 4):
        queue = store.queues[name]
        counts = number_bytes(len(queue.waiting), 4) + number_bytes(len(queue.takers), 4)
        channel.answer(50, 11, text_bytes(name) + counts)


def bind_queue(store, channel, parts):
    need_queue(store, parts[1])
    need_exchange(store, parts[2])
    binding = (parts[1], parts[2], parts[3])
    if binding not in store.bindings and len(store.bindings) >= BINDINGS_AT_MOST:
        raise ChannelFault(406)
    store.bindings[binding] = True
    if not has_bit(parts[4], 0):
        channel.answer(50, 21, [])


def unbind_queue(store, channel, parts):
    need_queue(store, parts[1])
    need_exchange(store, parts[2])
    binding = (parts[1], parts[2], parts[3])
    if binding in store.bindings:
        store.bindings.pop(binding)
    channel.answer(50, 51, [])


def purge_queue(store, channel, parts):
    queue = need_queue(store, parts[1])
    waited = len(queue.waiting)
    store.empty_queue(queue)
    if not has_bit(parts[2], 0):
        channel.answer(50, 31, number_bytes(waited, 4))


def delete_queue(store, channel, parts):
    bits = parts[2]
    queue = need_queue(store, parts[1])
    waited = len(queue.waiting)
    if has_bit(bits, 0) and len(queue.takers) > 0:
        raise ChannelFault(406)
    if has_bit(bits, 1) and waited > 0:
        raise ChannelFault(406)
    store.remove_queue(parts[1])
    if not has_bit(bits, 2):
        channel.answer(50, 41, number_bytes(waited, 4))


def set_most(store, channel, parts):
    channel.most = parts[1]
    channel.answer(60, 11, [])


def tag_for(store, channel, tag):
    if len(tag) > 0:
        return tag
    place = channel.place
    number = store.takers_count() + 1
    return codes(f"ctag{place}.{number}")


def start_taking(store, channel, parts):
    bits = parts[3]
    queue = need_queue(store, parts[1])
    need_name(parts[2])
    tag = tag_for(store, channel, parts[2])
    if store.has_taker(channel, tag):
        raise LineFault(530)
    if store.takers_count() >= TAKERS_AT_MOST:
        raise ChannelFault(406)
    queue.takers.append(Taker(channel, tag, has_bit(bits, 1)))
    if not has_bit(bits, 3):
        channel.answer(60, 21, text_bytes(tag))


def stop_taking(store, channel, parts):
    store.remove_taker(channel, parts[0])
    if not has_bit(parts[1], 0):
        channel.answer(60, 31, text_bytes(parts[0]))


def start_posting(store, channel, parts):
    if len(parts[1]) > 0:
        need_exchange(store, parts[1])
    channel.posting = Posting(parts[1], parts[2], has_bit(parts[3], 0))


def take_one(store, channel, parts):
    queue = need_queue(store, parts[1])
    if len(queue.waiting) == 0:
        channel.answer(60, 72, [0])
        return
    message = queue.waiting.pop(0)
    number = store.hand_over(channel, message, has_bit(parts[2], 0))
    taken = number_bytes(number, 8) + [message.before]
    taken = taken + text_bytes(message.exchange) + text_bytes(message.key)
    taken = taken + number_bytes(len(queue.waiting), 4)
    channel.answer_content(60, 71, taken, message.content)


def numbers_meant(channel, number, up_to):
    if not up_to:
        return [number] if number in channel.handed else []
    if number == 0:
        return list(channel.handed)
    return [earlier for earlier in channel.handed if earlier <= number]


def own_up(store, channel, parts):
    number = parts[0]
    up_to = has_bit(parts[1], 0)
    numbers = numbers_meant(channel, number, up_to)
    if len(numbers) == 0 and not (up_to and number == 0):
        raise ChannelFault(406)
    store.forget(channel.take_handed(numbers))


def turn_down(store, channel, parts):
    numbers = numbers_meant(channel, parts[0], False)
    if len(numbers) == 0:
        raise ChannelFault(406)
    messages = channel.take_handed(numbers)
    if has_bit(parts[1], 0):
        store.give_back(messages)
    else:
        store.forget(messages)


def give_all_back(store, channel, parts):
    store.give_back(channel.take_handed(list(channel.handed)))
    channel.answer(60, 111, [])


HANDLERS = {
    "20 40": close_channel,
    "20 41": confirm_close,
    "40 10": declare_exchange,
    "40 20": delete_exchange,
    "50 10": declare_queue,
    "50 20": bind_queue,
    "50 30": purge_queue,
    "50 40": delete_queue,
    "50 50": unbind_queue,
    "60 10": set_most,
    "60 20": start_taking,
    "60 30": stop_taking,
    "60 40": start_posting,
    "60 70": take_one,
    "60 80": own_up,
    "60 90": turn_down,
    "60 110": give_all_back,
}


def origin_of(channel, kind, body):
    """Class and method that a fault of this frame tells."""
    if channel.posting is not None:
        return (60, 40)
    if kind != METHOD or len(body) < 4:
        return (0, 0)
    return method_of(body)


def parts_or_fault(form, body):
    try:
        return read_parts(form, body)
    except Misfit:
        raise LineFault(502) from None


def take_method(store, channel, kind, body):
    if kind != METHOD:
        raise LineFault(505)
    if len(body) < 4:
        raise LineFault(502)
    word = method_word(body)
    if word not in HANDLERS:
        raise LineFault(540)
    handler = HANDLERS[word]
    handler(store, channel, parts_or_fault(FORMS[word], body))


def take_channel_frame(store, channel, kind, body):
    if channel.posting is not None:
        take_content(store, channel, kind, body)
    else:
        take_method(store, channel, kind, body)
