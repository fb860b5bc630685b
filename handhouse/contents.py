"""The content that comes behind 60 40, and what becomes of it when it's whole."""

from handhouse.faults import ChannelFault
from handhouse.faults import LineFault
from handhouse.faults import Misfit
from handhouse.wire import BODY
from handhouse.wire import HEADER
from handhouse.wire import codes
from handhouse.wire import content_length
from handhouse.wire import number_bytes
from handhouse.wire import text_bytes

CONTENT_AT_MOST = 65536


class Posting:
    """A message on its way in: its length is None till the frame of kind 2 has come."""

    def __init__(self, exchange, key, wants_return):
        self.exchange = exchange
        self.key = key
        self.wants_return = wants_return
        self.length = None
        self.content = []


def take_header(posting, kind, body):
    if kind != HEADER:
        raise LineFault(505)
    try:
        length = content_length(body)
    except Misfit:
        raise LineFault(502) from None
    if length > CONTENT_AT_MOST:
        raise ChannelFault(311)
    posting.length = length


def take_body(posting, kind, body):
    if kind != BODY:
        raise LineFault(505)
    if len(posting.content) + len(body) > posting.length:
        raise LineFault(501)
    posting.content.extend(body)


def finish_posting(store, channel):
    posting = channel.posting
    channel.posting = None
    reached = store.put(posting.exchange, posting.key, posting.content)
    if posting.wants_return and not reached:
        taken = number_bytes(312, 2) + text_bytes(codes("none"))
        taken = taken + text_bytes(posting.exchange) + text_bytes(posting.key)
        channel.answer_content(60, 50, taken, posting.content)


def take_content(store, channel, kind, body):
    posting = channel.posting
    if posting.length is None:
        take_header(posting, kind, body)
    else:
        take_body(posting, kind, body)
    if len(posting.content) == posting.length:
        finish_posting(store, channel)
