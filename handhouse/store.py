"""What all lines share: exchanges, bindings, queues, and the messages in them."""

from handhouse.topics import topic_fits
from handhouse.topics import words_of
from handhouse.wire import codes

ROOM = 1048576
EXTRA_SIZE = 64
GENERATED = "amq.gen-"
GENERATED_AT_MOST = 4294967296


class Message:
    """A message in one queue, or handed out from it; it knows the queue by name alone."""

    def __init__(self, queue_name, exchange, key, content):
        self.queue_name = queue_name
        self.exchange = exchange
        self.key = key
        self.content = content
        self.before = 0


class Taker:
    """One who takes from a queue, on a channel."""

    def __init__(self, channel, tag, freely):
        self.channel = channel
        self.tag = tag
        self.freely = freely

    def may_take(self):
        return self.freely or self.channel.has_leave()


class Queue:
    """The messages that wait, and the takers in the order of their turns."""

    def __init__(self):
        self.waiting = []
        self.takers = []

    def turn(self):
        """The first taker who may take, put last; or None."""
        found = None
        for taker in self.takers:
            if taker.may_take():
                found = taker
                break
        if found is not None:
            self.takers.remove(found)
            self.takers.append(found)
        return found


class Store:
    """Exchanges by name, bindings (queue, exchange, key) and queues by name, all in the order of their making."""

    def __init__(self):
        self.exchanges = {}
        self.bindings = {}
        self.queues = {}
        self.generated = 0
        self.held = 0

    def next_name(self):
        number = (self.generated + 1) % GENERATED_AT_MOST
        return codes(f"{GENERATED}{number}")

    def remove_exchange(self, name):
        if name in self.exchanges:
            self.exchanges.pop(name)
        for binding in list(self.bindings):
            if binding[1] == name:
                self.bindings.pop(binding)

    def is_bound_to(self, exchange):
        return any([binding[1] == exchange for binding in self.bindings])

    def remove_queue(self, name):
        queue = self.queues.pop(name)
        self.forget(queue.waiting)
        for binding in list(self.bindings):
            if binding[0] == name:
                self.bindings.pop(binding)

    def empty_queue(self, queue):
        self.forget(queue.waiting)
        queue.waiting = []

    def binding_takes(self, binding, exchange, key, words):
        if binding[1] != exchange:
            return False
        kind = self.exchanges[exchange]
        if kind == "fanout":
            return True
        if kind == "direct":
            return binding[2] == key
        return topic_fits(words_of(binding[2]), words)

    def queues_reached(self, exchange, key):
        """The names of the queues to which a message comes, each once."""
        names = {}
        if len(exchange) == 0 and key in self.queues:
            names[key] = True
        words = words_of(key)
        for binding in self.bindings:
            if binding[0] not in names and self.binding_takes(binding, exchange, key, words):
                names[binding[0]] = True
        return list(names)

    def put(self, exchange, key, content):
        """Puts a message to the queues that it comes to, to all or none; tells whether there are any."""
        names = self.queues_reached(exchange, key)
        need = (len(content) + EXTRA_SIZE) * len(names)
        if self.held + need <= ROOM:
            self.held = self.held + need
            for name in names:
                self.queues[name].waiting.append(Message(name, exchange, key, content))
        return len(names) > 0

    def forget(self, messages):
        """These messages are no more: their room is free again."""
        for message in messages:
            self.held = self.held - len(message.content) - EXTRA_SIZE

    def give_back(self, messages):
        """Puts messages, in the order in which they were handed out, before all that wait."""
        rows = {}
        for message in messages:
            message.before = 1
            rows.setdefault(message.queue_name, []).append(message)
        for name in rows:
            if name in self.queues:
                queue = self.queues[name]
                queue.waiting = rows[name] + queue.waiting
            else:
                self.forget(rows[name])

    def takers_count(self):
        return sum([len(queue.takers) for queue in self.queues.values()])

    def waiting_count(self):
        return sum([len(queue.waiting) for queue in self.queues.values()])

    def has_taker(self, channel, tag):
        for queue in self.queues.values():
            for taker in queue.takers:
                if taker.channel == channel and taker.tag == tag:
                    return True
        return False

    def remove_taker(self, channel, tag):
        for queue in self.queues.values():
            queue.takers = [taker for taker in queue.takers if taker.channel != channel or taker.tag != tag]

    def let_go(self, channel):
        """A channel goes: its takers go, and what it was handed is given back."""
        for queue in self.queues.values():
            queue.takers = [taker for taker in queue.takers if taker.channel != channel]
        self.give_back(channel.take_handed(list(channel.handed)))

    def hand_over(self, channel, message, freely):
        """The number under which a message is handed out on a channel."""
        if freely:
            self.forget([message])
        return channel.count_handed(message, freely)

    def hand_out(self):
        for queue in self.queues.values():
            if len(queue.waiting) > 0 and len(queue.takers) > 0:
                self.hand_out_from(queue)

    def hand_out_from(self, queue):
        done = 0
        while done < len(queue.waiting):
            taker = queue.turn()
            if taker is None:
                break
            message = queue.waiting[done]
            taker.channel.deliver(taker.tag, self.hand_over(taker.channel, message, taker.freely), message)
            done = done + 1
        queue.waiting = queue.waiting[done:]
