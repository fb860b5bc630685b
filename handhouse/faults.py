"""The errors by which a frame is refused on its way through the house."""


class LineFault(Exception):
    """The whole line ends, with this code."""

    def __init__(self, code):
        self.code = code


class ChannelFault(Exception):
    """The channel goes and is shut, with this code."""

    def __init__(self, code):
        self.code = code


class Misfit(Exception):
    """What a method brought isn't just what it takes."""
