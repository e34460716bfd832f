import random
import unittest

from saidthen.errors import BadText
from saidthen.notes import read, shown, written

from tests import plain

LAST = plain.LAST
GREAT = 10 ** 9
ENTRIES = (
    (("tell", "tea", 3, 9, -40), "tell tea 3 9 -40"),
    (("clear", "tea", 4, 4), "clear tea 4 4"),
    (("like", "tea", 0, 9, "cup"), "like tea 0 9 cup"),
    (("undo", 3), "undo 3"),
    (("tell", "abcdefgh", 0, LAST, GREAT), "tell abcdefgh 0 1000000 1000000000"),
    (("tell", "z", LAST, LAST, -GREAT), "tell z 1000000 1000000 -1000000000"),
    (("tell", "tell", 0, 0, 0), "tell tell 0 0 0"),
    (("tell", "a", 0, 10, -1), "tell a 0 10 -1"),
    (("like", "like", 10, 100, "like"), "like like 10 100 like"),
    (("undo", 10 ** 12), "undo 1000000000000"),
)


class Shown(unittest.TestCase):
    def test_each_kind(self):
        for entry, text in ENTRIES:
            self.assertEqual(shown(entry), text)


class Written(unittest.TestCase):
    def test_the_empty_book(self):
        self.assertEqual(written({}), "")

    def test_one_entry(self):
        self.assertEqual(written({7: ("undo", 3)}), "7: undo 3")

    def test_by_rising_numbers(self):
        book = {10: ("undo", 9), 9: ("clear", "tea", 4, 4), 100: ("tell", "tea", 3, 9, -40),
                1: ("like", "tea", 0, 9, "cup")}
        self.assertEqual(written(book), "1: like tea 0 9 cup\n9: clear tea 4 4\n10: undo 9\n100: tell tea 3 9 -40")


class Read(unittest.TestCase):
    def same(self, book):
        text = written(book)
        told = read(text)
        self.assertEqual(told, book)
        self.assertIs(type(told), dict)
        self.assertEqual({type(entry) for entry in told.values()} - {tuple}, set())
        self.assertEqual(written(told), text)

    def test_the_empty_book(self):
        self.assertEqual(read(""), {})
        read("")[1] = "mine"
        self.assertEqual(read(""), {})

    def test_each_kind(self):
        for entry, text in ENTRIES:
            number = 10 ** 12 + 1
            self.assertEqual(read(f"{number}: {text}"), {number: entry})
            self.same({number: entry})

    def test_numbers_with_gaps_and_of_several_figures(self):
        self.same({2: ("undo", 1), 10: ("undo", 3), 99: ("clear", "tea", 0, 0), 100: ("tell", "tea", 0, 9, 0),
                   12345678901: ("undo", 12345678900)})

    def test_30_entries(self):
        self.same({number: ("tell", "abcdefgh", 999999, LAST, -GREAT) for number in range(1, 31)})

    def test_a_number_of_many_figures(self):
        self.same({10 ** 3000: ("undo", 10 ** 900)})
        with self.assertRaises(BadText):
            read("1: tell tea 0 9 " + "9" * 3900)

    def test_books_by_chance(self):
        for book in plain.some_books(200, 19):
            self.same(book)

    def refused(self, *texts):
        for text in texts:
            with self.assertRaises(BadText, msg=repr(text)) as caught:
                read(text)
            self.assertIs(type(caught.exception), BadText)

    def test_no_text(self):
        self.refused(None, 7, 0, True, False, [], ["1: undo 1"], (), {}, {1: ("undo", 1)}, b"", b"2: undo 1", 1.5)

    def test_how_numbers_are_written(self):
        self.refused("07: undo 3", "7: undo 03", "7: undo +3", "+7: undo 3", "7: undo 3.0", "7: undo 3_0",
                     "7: undo 0x3", "-7: undo 3", "7: undo -3", ": undo 3", "a: undo 3", "None: undo 3",
                     "7: undo None", "True: undo 0", "2: undo True")
        self.refused("1: tell tea 03 9 5", "1: tell tea 3 09 5", "1: tell tea 3 9 05", "1: tell tea 3 9 -05",
                     "1: tell tea 3 9 -0", "1: tell tea -0 9 5", "1: tell tea 0 -0 5", "1: tell tea 3 9 +5",
                     "1: tell tea 00 9 5", "1: tell tea 3 9 --5", "1: tell tea 3 9 -", "1: tell tea 3 9 5-",
                     "1: tell tea 3 9 1e3", "1: tell tea 3 9 - 5", "1: tell tea 3 9 \u22125")

    def test_figures_that_are_none_of_0_to_9(self):
        for figure in ("\u0663", "\uff13", "\u00b3", "\u2462", "\u0969", "\u4e09"):
            self.refused(f"7: undo {figure}", f"{figure}: clear tea 0 9", f"1: tell tea {figure} 9 5",
                         f"1: tell tea 0 {figure} 5", f"1: tell tea 0 9 {figure}", f"1: tell tea 0 9 1{figure}",
                         f"1: tell tea 0 9 -{figure}")

    def test_blanks(self):
        self.refused("7:  undo 3", "7:undo 3", "7 : undo 3", " 7: undo 3", "7: undo 3 ", "7: undo  3", "7: undo3",
                     "7: undo\t3", "7:\tundo 3", "\t7: undo 3", "7: undo 3\t", "7: undo\u00a03", " ", "\t",
                     "1: tell tea 3  9 5", "1: tell tea 39 5", "1: telltea 3 9 5", "1: tell tea 3 9\t5",
                     "1: clear tea 4 4\n 7: undo 3", "1: clear tea 4 4 \n7: undo 3")

    def test_line_ends(self):
        self.refused("\n", "\n\n", "7: undo 3\n", "\n7: undo 3", "7: undo 3\n\n9: undo 3", "7: undo 3\r\n9: undo 3",
                     "7: undo 3\r9: undo 3", "7: undo 3\r", "7: undo 3\r\n", "7: undo 3\u20289: undo 3",
                     "7: undo 3\x0b9: undo 3", "7: undo 3\x0c9: undo 3", "7: undo 3\x859: undo 3",
                     "7: undo 3\x00", "7: undo 3 9: undo 3", "7: undo 3; 9: undo 3", "7: undo 3\n \n9: undo 3")

    def test_numbers_of_entries(self):
        self.refused("7: clear tea 0 9\n7: clear tea 0 9", "7: clear tea 0 9\n7: clear tea 0 8",
                     "7: clear tea 0 9\n5: clear tea 0 9", "9: clear tea 0 9\n10: clear tea 0 9\n9: clear tea 0 9",
                     "10: clear tea 0 9\n9: clear tea 0 9", "0: clear tea 0 9", "-1: clear tea 0 9",
                     "1: clear tea 0 9\n\n2: clear tea 0 9")

    def test_numbers_of_undos(self):
        self.refused("7: undo 7", "7: undo 8", "1: undo 1", "1: undo 0", "7: undo 0", "7: undo -1",
                     "1: clear tea 0 9\n2: undo 3\n3: clear tea 0 9")
        self.assertEqual(read("7: undo 6"), {7: ("undo", 6)})

    def test_names(self):
        for name in ("", "abcdefghi", "Tea", "TEA", "tEa", "te4", "te-a", "te\u00e4", "\uff41", "3", "-3"):
            self.refused(f"1: tell {name} 3 9 5", f"1: clear {name} 3 9", f"1: like {name} 3 9 tea",
                         f"1: like tea 3 9 {name}")

    def test_days_and_worths(self):
        for days in ("-1 9", "0 1000001", "1000001 1000001", "9 8", "1000000 0", "a 9", "0 a", "0 9a"):
            self.refused(f"1: tell tea {days} 5", f"1: clear tea {days}", f"1: like tea {days} cup")
        for worth in ("1000000001", "-1000000001", "None", "tea", "", "5.0"):
            self.refused(f"1: tell tea 0 9 {worth}")

    def test_words(self):
        self.refused("1: tell tea 3 9", "1: tell tea 3 9 5 5", "1: clear tea 3", "1: clear tea 3 9 5", "1: clear",
                     "1: like tea 3 9", "1: like tea 3 9 cup cup", "1: like tea 3 9 5", "1: tell tea 3 9 cup",
                     "7: undo", "7: undo 3 4", "7: undo tea", "1: ", "1:", "1", "1: ask tea 3 9", "1: Tell tea 3 9 5",
                     "1: TELL tea 3 9 5", "1: 5 tea 3 9 5", "1: tea 3 9 5", "tell tea 3 9 5", "undo 3", "x")

    def test_colons(self):
        self.refused("7 undo 3", "7:undo 3", "7:: undo 3", "7: : undo 3", "7: undo: 3", "7: undo 3:", "7; undo 3",
                     "7:  undo 3", ": 7: undo 3", "7: 7: undo 3", "7: undo 3: ", "7\uff1a undo 3")

    def test_31_lines(self):
        lines = [f"{number}: clear tea 0 9" for number in range(1, 32)]
        self.assertEqual(len(read("\n".join(lines[:30]))), 30)
        self.refused("\n".join(lines))
        self.refused("\n".join(lines[:30] + lines[29:30]))

    def test_one_bad_line_among_good_ones(self):
        good = ["1: clear tea 0 9", "5: undo 1", "9: tell tea 0 9 5"]
        for at in range(4):
            for bad in ("", " ", "x", "3: tell tea", "99: undo 99"):
                self.refused("\n".join(good[:at] + [bad] + good[at:]))

    def test_texts_by_chance_are_refused_or_written_again_as_they_are(self):
        chance = random.Random(41)
        for book in plain.some_books(200, 20):
            text = written(book)
            for _ in range(10):
                at = chance.randint(0, len(text))
                sign = chance.choice(["", "0", "1", "-", " ", "\n", ":", "t", "\t"])
                other = text[:at] + sign + text[at + chance.randint(0, 1):]
                try:
                    self.assertEqual(written(read(other)), other)
                except BadText:
                    self.assertNotEqual(other, text)


if __name__ == "__main__":
    unittest.main()
