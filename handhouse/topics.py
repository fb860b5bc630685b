"""Whether a topic's pattern takes a key."""

POINT = 46
ONE_WORD = (42,)
ANY_WORDS = (35,)


def words_of(key):
    """The words between the points: one more than there are points."""
    words = []
    word = []
    for byte in key:
        if byte == POINT:
            words.append(tuple(word))
            word = []
        else:
            word.append(byte)
    words.append(tuple(word))
    return words


def without_doubles(pattern):
    """Two neighbours that stand for any number say no more than one: then one step passes it by."""
    words = []
    for word in pattern:
        if word != ANY_WORDS or len(words) == 0 or words[len(words) - 1] != ANY_WORDS:
            words.append(word)
    return words


def topic_fits(pattern, words):
    """Whether the pattern's words take a key's words.

    All places of the pattern that may come next are held at once, as the bits of one number: so a
    pattern with many # costs no more than one step for each word of the key.
    """
    here = {}
    ones = 0
    anys = 0
    bit = 1
    for word in without_doubles(pattern):
        if word == ANY_WORDS:
            anys = anys | bit
        elif word == ONE_WORD:
            ones = ones | bit
        else:
            here[word] = here.get(word, 0) | bit
        bit = bit * 2
    places = 1 | ((1 & anys) * 2)
    for word in words:
        passed = places & (here.get(word, 0) | ones)
        places = (passed * 2) | (places & anys)
        places = places | ((places & anys) * 2)
    return (places & bit) != 0
