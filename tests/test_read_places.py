"""Pages changed at every place, and at random, held against the slower reference of what read must answer."""

import random
import unittest

from glasspages.pages import printed, read
from tests import pagereference
from tests.parts import full_parts, octets_of, page_of, rows_of, run_parts, small_parts, text_of
from tests.test_printed import random_parts

SIGNS = b"\x00\n\r /0159:aelpswx~\x80\xff"
WORDS = list(pagereference.MOST)


def random_number(source, most):
    """Often a number at an edge, sometimes one above what its bytes hold."""
    edges = [0, 1, 9, 10, most - 1, most, source.randint(0, most), source.randint(0, min(most, 30))]
    return source.choice(edges * 3 + [most + 1])


def random_rows(source):
    """Lines as a page has them, of numbers that may be anything."""
    words = ["workshop", "window"]
    for word in ("point", "line", "pane"):
        words += [word] * source.randint(0, 3)
    words += ["cut", "lead", "margin", "ways", "shelf"]
    for word in ("sheet", "kind", "glass"):
        words += [word] * source.randint(0, 2)
    words += ["paint", "coats"] * source.randint(0, 2)
    rows = []
    for word in words + ["end"]:
        most = pagereference.MOST[word]
        if word == "coats":
            most = most[:source.randint(1, 4)]
        rows.append([word] + [random_number(source, largest) for largest in most])
    return rows


def disturbed(source, rows):
    """The lines with some of them moved, left out, told twice or called otherwise."""
    rows = [list(row) for row in rows]
    for change in range(source.randint(0, 2)):
        number = source.randrange(len(rows))
        row = rows[number]
        kind = source.randrange(6)
        if kind == 0:
            rows[number][0] = source.choice(WORDS)
        elif kind == 1:
            rows.insert(source.randrange(len(rows) + 1), list(row))
        elif kind == 2 and len(rows) > 1:
            rows.pop(number)
        elif kind == 3:
            row.append(source.choice([0, 7, "", "00"]))
        elif kind == 4 and len(row) > 1:
            row.pop()
        elif len(row) > 1:
            row[source.randrange(1, len(row))] = source.choice(["00", "01", "", "x", "-1", 2 ** 16, 2 ** 32, 2 ** 64])
    return rows


def retouched(source, text):
    """The text with some of its bytes changed, put in or left out."""
    octets = list(text)
    for change in range(source.choice([0, 0, 1, 1, 2])):
        place = source.randrange(len(octets) + 1)
        sign = source.choice(list(SIGNS) + [source.randrange(256)])
        width = source.randrange(2)
        octets[place:place + width] = source.choice([[], [sign]])
    return bytes(octets)


class Places(unittest.TestCase):
    def assert_as_reference(self, text):
        answer = read(list(text))
        self.assertEqual(answer, pagereference.answer(text), text)
        if answer[:2] == [-5, 1]:
            self.assertLessEqual(answer[2], len(text))
        return answer

    def pages(self):
        return [bytes(page_of(parts)) for parts in (run_parts(), small_parts())]

    def test_one_byte_changed(self):
        for page in self.pages():
            for place in range(len(page)):
                for sign in SIGNS + bytes([page[place] ^ 1]):
                    self.assert_as_reference(page[:place] + bytes([sign]) + page[place + 1:])

    def test_one_byte_put_in(self):
        for page in self.pages():
            for place in range(len(page) + 1):
                for sign in SIGNS + page[place:place + 1]:
                    self.assert_as_reference(page[:place] + bytes([sign]) + page[place:])

    def test_one_byte_left_out(self):
        for page in self.pages() + [bytes(page_of(full_parts()))]:
            for place in range(len(page)):
                self.assert_as_reference(page[:place] + page[place + 1:])

    def test_every_byte_in_some_places(self):
        page = bytes(page_of(small_parts()))
        wanted = (b"workshop", b"window", b"16", b"point", b"cut", b"shelf 0", b"coats", b"1\nend", b"end")
        for place in [page.index(piece) for piece in wanted] + [len(page) - 1]:
            for sign in range(256):
                self.assert_as_reference(page[:place] + bytes([sign]) + page[place + 1:])

    def test_each_word_in_the_place_of_each(self):
        rows = rows_of(small_parts())
        for number in range(len(rows) + 1):
            start = text_of(rows[:number])
            for word in WORDS:
                for more in (b"", b" ", b"\n", b" 7", b" 7\n", b" 7 7\n", b" 7 7 7 7\n", b" 7 7 7 7 7\n"):
                    self.assert_as_reference(start + word.encode() + more)

    def test_two_lines_changed_about(self):
        rows = rows_of(small_parts())
        for one in range(len(rows)):
            for other in range(one):
                changed = list(rows)
                changed[one], changed[other] = rows[other], rows[one]
                self.assert_as_reference(text_of(changed))

    def test_random_texts(self):
        source = random.Random(6)
        seen = set()
        for count in range(3000):
            rows = random_rows(source) if source.random() < 0.7 else rows_of(random_parts(source))
            text = retouched(source, text_of(disturbed(source, rows)))
            answer = self.assert_as_reference(text)
            seen.add(answer[1] if answer[0] < 0 else 0)
        self.assertLessEqual({0, 1, 18, 20}, seen)
        # The bytes that a page tells begin as they must, and are as many as they tell.
        self.assertEqual(seen & {17, 19}, set())


class Promises(unittest.TestCase):
    def test_a_page_and_its_bytes_are_one_another_s(self):
        source = random.Random(7)
        for count in range(150):
            parts = random_parts(source)
            octets, page = octets_of(parts), page_of(parts)
            self.assertEqual(read(page), [0, len(octets)] + octets)
            self.assertEqual(printed(octets), [0, len(page)] + page)

    def test_what_is_read_is_printed_as_it_is(self):
        """Of all texts a byte away from a page, those that are read too."""
        page = page_of(small_parts())
        read_count = 0
        for place in range(len(page)):
            for sign in b"0123456789 \n":
                text = page[:place] + [sign] + page[place + 1:]
                answer = read(text)
                if answer[0] == 0:
                    read_count += 1
                    self.assertEqual(printed(answer[2:]), [0, len(text)] + text)
        self.assertGreater(read_count, 500)

    def test_up_to_the_place_some_page_goes_on(self):
        """What goes on is read to its end, whatever stands behind; with the next byte it ends there."""
        source = random.Random(8)
        for count in range(400):
            text = list(retouched(source, text_of(disturbed(source, random_rows(source)))))
            answer = read(text)
            if answer[:2] == [-5, 1]:
                place = answer[2]
                self.assertEqual(read(text[:place]), answer)
                self.assertEqual(read(text[:place + 1]), answer)
                self.assertEqual(read(text[:place] + [0]), answer)


if __name__ == "__main__":
    unittest.main()
