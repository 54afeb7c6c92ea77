"""Blanks, remarks, words, numbers and signs, and what is none of them."""

import unittest

from helper import checked, refused_at, bytes_of
from secretparts.desk import check

HEAD = "field 5; who a, b; "


class Blanks(unittest.TestCase):
    def test_each_of_the_four_between_tokens(self):
        for blank in "\t\n\r ":
            text = "field 5;who a,b;let x=a&b;let y=2 of(a,x);"
            for sign in ";,=&()":
                text = text.replace(sign, blank + sign + blank)
            text = text.replace("field ", "field" + blank * 2).replace("let ", "let" + blank)
            text = text.replace("who ", "who" + blank).replace("2 of", "2" + blank + "of")
            self.assertEqual(checked(text), [2], blank)

    def test_blanks_ahead_and_behind(self):
        self.assertEqual(checked(" \t\r\n" + HEAD + "\n\n \t\r"), [0])

    def test_blanks_only_where_words_would_run_together(self):
        self.assertEqual(checked("field 5;who a,b;let x=2of(a,b)|a&b;"), [1])
        self.assertEqual(checked("field5;who a;"), refused_at(0))
        self.assertEqual(checked("field 5;whoa;"), refused_at(8))
        self.assertEqual(checked("field 5;who a;letx=a;"), refused_at(14))

    def test_a_blank_ends_a_word_and_a_number(self):
        self.assertEqual(checked("fie ld 5; who a;"), refused_at(0))
        self.assertEqual(checked("field 1 1; who a;"), refused_at(6))
        self.assertEqual(checked("field 2 3; who a;"), refused_at(8))

    def test_other_controls_are_no_blanks(self):
        for byte in (0, 1, 8, 11, 12, 14, 28, 31, 127, 133, 160):
            text = bytes_of("field") + [byte] + bytes_of("5; who a;")
            self.assertEqual(check(text), refused_at(5), byte)


class Remarks(unittest.TestCase):
    def test_to_the_end_of_the_line(self):
        text = "# field\nfield#5;\n5#;\n;who a# , b\n,c;#let\nlet x=a&#)\nc;"
        self.assertEqual(checked(text), [1])

    def test_nothing_in_it_is_looked_at(self):
        remark = [byte for byte in range(256) if byte != 10]
        text = bytes_of(HEAD + "#") + remark + [10] + bytes_of("let x = a;")
        self.assertEqual(check(text), [1])
        self.assertEqual(check(text[:-1]), refused_at(len(text) - 1))

    def test_without_an_end_of_line(self):
        self.assertEqual(checked(HEAD + "#"), [0])
        self.assertEqual(checked(HEAD + "# let x = a;"), [0])
        self.assertEqual(checked("#"), refused_at(1))
        self.assertEqual(checked("field 5 # ;"), refused_at(11))

    def test_only_byte_10_ends_it(self):
        for blank in "\t\r \x0b\x0c\x85":
            text = "field 5;#" + blank + "who a;"
            self.assertEqual(checked(text), refused_at(len(text)), blank)


class Words(unittest.TestCase):
    def test_15_and_16_bytes(self):
        for word in ("a" * 15, "a23456789012345", "z______________"):
            self.assertEqual(checked("field 5; who " + word + "; let x = " + word + ";"), [1])
            self.assertEqual(checked("field 5; who " + word + "9;"), refused_at(13))
            self.assertEqual(checked("field 5; who a; let " + word + "_ = a;"), refused_at(20))
            self.assertEqual(checked("field 5; who a; let x = " + word + "b;"), refused_at(24))

    def test_two_words_that_differ_in_the_last_byte(self):
        text = "field 5; who %s, %s;" % ("a" * 14 + "b", "a" * 14 + "c")
        self.assertEqual(checked(text), [0])

    def test_every_small_letter_digit_and_the_low_line(self):
        for first in "abcdefghijklmnopqrstuvwxyz":
            self.assertEqual(checked("field 5; who " + first + ";"), [0], first)
        text = "field 5; who abcdefghijklm, nopqrstuvwxyz, q0123456789_;"
        self.assertEqual(checked(text), [0])

    def test_begins_with_a_digit_or_a_low_line(self):
        self.assertEqual(checked("field 5; who 1a;"), refused_at(13))
        self.assertEqual(checked("field 5; who _a;"), refused_at(13))
        self.assertEqual(checked(HEAD + "let x = 1a;"), refused_at(28))

    def test_a_big_letter_is_a_wrong_byte(self):
        self.assertEqual(checked("Field 5; who a;"), refused_at(0))
        self.assertEqual(checked("fielD 5; who a;"), refused_at(0))
        self.assertEqual(checked("field 5; who aB;"), refused_at(14))
        self.assertEqual(checked("field 5; who B;"), refused_at(13))

    def test_a_longer_kept_word_is_a_name(self):
        text = "field 5; who fields, who_, let1, off; let of2 = fields & who_ & let1 & off;"
        self.assertEqual(checked(text), [1])

    def test_kept_words_are_no_names(self):
        for word in ("field", "who", "let", "of"):
            self.assertEqual(checked("field 5; who " + word + ";"), refused_at(13), word)
            self.assertEqual(checked("field 5; who a, " + word + ";"), refused_at(16), word)
            self.assertEqual(checked(HEAD + "let " + word + " = a;"), refused_at(23), word)
            self.assertEqual(checked(HEAD + "let x = " + word + ";"), refused_at(27), word)


class Numbers(unittest.TestCase):
    def test_5_and_6_digits_of_the_field(self):
        self.assertEqual(checked("field 00005; who a;"), [0])
        self.assertEqual(checked("field 00251; who a;"), [0])
        self.assertEqual(checked("field 000005; who a;"), refused_at(6))
        self.assertEqual(checked("field 000251; who a;"), refused_at(6))

    def test_5_and_6_digits_of_what_is_asked(self):
        self.assertEqual(checked(HEAD + "let x = 00002 of (a, b);"), [1])
        self.assertEqual(checked(HEAD + "let x = 000002 of (a, b);"), refused_at(27))
        self.assertEqual(checked(HEAD + "let x = 99999 of (a, b);"), refused_at(41))
        self.assertEqual(checked(HEAD + "let x = 100000 of (a, b);"), refused_at(27))

    def test_a_number_ends_where_no_digit_is(self):
        self.assertEqual(checked(HEAD + "let x = 2of(a, b);"), [1])
        self.assertEqual(checked("field 5a; who a;"), refused_at(7))
        self.assertEqual(checked("field -5; who a;"), refused_at(6))
        self.assertEqual(checked("field 5.0; who a;"), refused_at(7))


class OtherBytes(unittest.TestCase):
    def test_every_byte_behind_a_right_text(self):
        for byte in range(256):
            text = bytes_of(HEAD) + [byte]
            nothing = byte in (9, 10, 13, 32, 35)
            self.assertEqual(check(text), [0] if nothing else refused_at(len(HEAD)), byte)

    def test_every_byte_where_a_name_has_to_stand(self):
        for byte in range(256):
            text = bytes_of("field 5; who ") + [byte] + bytes_of(";")
            expected = refused_at(13)
            if 97 <= byte <= 122:
                expected = [0]
            elif byte in (9, 10, 13, 32):
                expected = refused_at(14)
            elif byte == 35:
                expected = refused_at(15)
            self.assertEqual(check(text), expected, byte)

    def test_every_byte_behind_a_name(self):
        for byte in range(256):
            text = bytes_of("field 5; who a") + [byte] + bytes_of(";")
            expected = refused_at(14)
            if 97 <= byte <= 122 or 48 <= byte <= 57 or byte in (95, 9, 10, 13, 32):
                expected = [0]
            elif byte == 44:
                expected = refused_at(15)
            elif byte == 59:
                expected = refused_at(15)
            elif byte == 35:
                expected = refused_at(16)
            self.assertEqual(check(text), expected, byte)

    def test_a_wrong_byte_only_where_nothing_ahead_of_it_is_wrong(self):
        self.assertEqual(checked("field 5; who a; let x = a & ; ?"), refused_at(28))
        self.assertEqual(checked("field 5; who a; let x = a & ? ;"), refused_at(28))
        self.assertEqual(checked("field 4; who A;"), refused_at(6))
        self.assertEqual(checked("field 5; who a, a?;"), refused_at(16))


if __name__ == "__main__":
    unittest.main()
