"""Point 80: texts."""

import unittest

from segmentfs.nodes.texts import is_text, octets_of, text_of

CODES = [code for code in range(32, 127) if code != 37]
WHOLE = "".join(chr(code) for code in CODES)


class TextsTest(unittest.TestCase):
    def test_each_character(self):
        for code in range(600):
            self.assertIs(is_text(chr(code)), code in CODES, code)
            self.assertIs(is_text("a" + chr(code) + "b"), code in CODES, code)

    def test_characters_beside_the_edges(self):
        for text in (" ", "!", "~", "$", "&", "a b", "/", "."):
            self.assertIs(is_text(text), True, text)
        for text in (chr(31), chr(127), chr(37), "\n", "\t", chr(0), chr(228), chr(8364), chr(0x1F600)):
            self.assertIs(is_text(text), False, text)

    def test_one_wrong_character_is_enough(self):
        for place in range(len(WHOLE) + 1):
            self.assertFalse(is_text(WHOLE[:place] + chr(37) + WHOLE[place:]))

    def test_empty_text(self):
        self.assertIs(is_text(""), True)
        self.assertEqual(octets_of(""), [])
        self.assertEqual((text_of([]), text_of(())), ("", ""))

    def test_octets_of_a_text(self):
        self.assertEqual(octets_of("log"), [108, 111, 103])
        self.assertEqual(octets_of(" ~"), [32, 126])
        self.assertEqual(octets_of(WHOLE), CODES)

    def test_text_of_octets(self):
        self.assertEqual(text_of([108, 111, 103]), "log")
        self.assertEqual(text_of((36, 38)), "$&")
        self.assertEqual(text_of(CODES), WHOLE)

    def test_each_octet(self):
        for octet in range(256):
            expected = chr(octet) if octet in CODES else None
            self.assertEqual(text_of([octet]), expected)
            self.assertEqual(text_of((octet,)), expected)

    def test_octets_that_are_no_text(self):
        for octet in (0, 31, 37, 127, 128, 255):
            for place in range(4):
                octets = [97, 98, 99]
                octets.insert(place, octet)
                self.assertIsNone(text_of(octets))
                self.assertIsNone(text_of(tuple(octets)))

    def test_lists_are_not_changed(self):
        octets = [97, 98]
        text_of(octets)
        self.assertEqual(octets, [97, 98])
        octets_of("ab").clear()
        self.assertEqual(octets_of("ab"), [97, 98])


if __name__ == "__main__":
    unittest.main()
