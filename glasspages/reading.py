"""Texts read: gone through line by line, as far as some page begins so."""

from glasspages.forms import FOLLOWERS, MOST_LINES, NUMBER_RUNS, number_sizes
from glasspages.octets import LARGEST, octets_of

LINE_END = 10
BLANK = 32
ZERO = 48
NINE = 57


class Scan:
    """A text, how many of its bytes some page begins with, and the bytes its lines so far tell, by their words."""

    def __init__(self, text):
        self.text = text
        self.place = 0
        self.rows = {}
        for word in NUMBER_RUNS:
            self.rows[word] = []

    def octet_ahead(self, distance):
        """The byte so far ahead, or None behind the last."""
        if self.place + distance < len(self.text):
            return self.text[self.place + distance]
        return None

    def takes(self, octet):
        """Whether that byte is next; if so, it's gone past."""
        if self.octet_ahead(0) != octet:
            return False
        self.place += 1
        return True

    def is_page(self):
        return len(self.rows["end"]) == 1 and self.place == len(self.text)


def agreeing_count(scan, octets):
    """How many of these bytes stand next in the text."""
    count = 0
    while count < len(octets) and scan.octet_ahead(count) == octets[count]:
        count += 1
    return count


def words_behind(scan, word):
    """The words with which the line behind one of that word may begin."""
    words = []
    for other in FOLLOWERS[word]:
        if other not in MOST_LINES or len(scan.rows[other]) < MOST_LINES[other]:
            words.append(other)
    return words


def word_octets(word):
    """The word with what stands right behind it: the line's end, or a blank if there are numbers."""
    behind = BLANK if len(NUMBER_RUNS[word]) > 0 else LINE_END
    return [ord(sign) for sign in word] + [behind]


def take_word(scan, words):
    """The one of the words that's next, gone past with what's right behind it, or None."""
    most = 0
    for word in words:
        octets = word_octets(word)
        count = agreeing_count(scan, octets)
        if count == len(octets):
            scan.place += count
            return word
        most = max(most, count)
    scan.place += most
    return None


def take_number(scan, largest):
    """The number that's next, gone past, or None if there's none."""
    number = None
    while True:
        octet = scan.octet_ahead(0)
        if octet is None or octet < ZERO or octet > NINE:
            return number
        # A digit with which there'd be no such number is left standing: nothing that may follow begins with it.
        longer = (0 if number is None else number * 10) + octet - ZERO
        if number == 0 or longer > largest:
            return number
        number = longer
        scan.place += 1


def take_numbers(scan, sizes):
    """The bytes of the line's numbers, gone past with its end, or None if they don't go on so."""
    octets = []
    for index, size in enumerate(sizes, start=1):
        number = take_number(scan, LARGEST[size])
        if number is None or not scan.takes(LINE_END if index == len(sizes) else BLANK):
            return None
        octets.extend(octets_of(number, size))
    return octets


def take_coats(scan, sizes):
    """The bytes of how many coats there are and of their kinds, 0s behind them; else as of other numbers."""
    kinds = []
    for index, size in enumerate(sizes, start=1):
        kind = take_number(scan, LARGEST[size])
        if kind is None:
            return None
        kinds.append(kind)
        if scan.takes(LINE_END):
            return [index] + kinds + [0] * (len(sizes) - index)
        if index < len(sizes) and not scan.takes(BLANK):
            return None
    return None


def take_line(scan, words):
    """The word of the line that's next, if it's one of these; its bytes are kept. Else None."""
    word = take_word(scan, words)
    if word is None:
        return None
    sizes = number_sizes(word)
    octets = take_coats(scan, sizes) if word == "coats" else take_numbers(scan, sizes)
    if octets is None:
        return None
    scan.rows[word].append(octets)
    return word


def scan_of(text):
    """The text gone through, as far as some page begins so."""
    scan = Scan(text)
    word = ""
    while word is not None:
        word = take_line(scan, words_behind(scan, word))
    return scan
