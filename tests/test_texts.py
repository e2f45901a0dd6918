"""Texts and programs that are read: which line is wrong, in run, check and load."""

import unittest

from drillrounds.texts import is_number
from support import HOLE, HOLES, ask, ask_last, check_of, load_of, run_of

WRONG_BYTES = [byte for byte in range(256) if byte != 10 and not 32 <= byte <= 126]


class Reading(unittest.TestCase):
    def wrong_at(self, line, text):
        """All three calls tell that line, and the hole that was there stays."""
        self.assertEqual(ask([HOLE, 7, 7, 7], run_of(text), check_of(text), load_of(text), [HOLES])[1:],
                         [[-100 - line]] * 3 + [[1, 7, 7, 7]], text)

    def right(self, text, *holes):
        self.assertEqual(ask_last(run_of(text)), [len(holes), *[number for hole in holes for number in hole]], text)


class Lines(Reading):
    def test_the_empty_text(self):
        self.wrong_at(1, "")

    def test_the_last_line_with_and_without_a_line_feed(self):
        self.right("tool 1")
        self.right("tool 1\n")
        self.right("tool 1\nhere", (0, 0, 1))
        self.right("tool 1\nhere\n", (0, 0, 1))

    def test_only_line_feeds(self):
        self.wrong_at(2, "\n")
        self.wrong_at(4, "\n\n\n")

    def test_only_blanks(self):
        self.wrong_at(2, " ")
        self.wrong_at(2, "     \n")
        self.wrong_at(3, "     \n ")

    def test_lines_without_words_are_passed_over_and_counted(self):
        self.right("\n   \n\ntool 1\n\n  \nhere\n\n", (0, 0, 1))
        self.wrong_at(4, "\n   \n\nwhat\n")
        self.wrong_at(6, "\ntool 1\n\n  \n\nwhat\n\nwhat\n")

    def test_blanks_between_words_and_at_the_ends(self):
        self.right("  tool   1  \n at  3 4\n   here   ", (3, 4, 1), (3, 4, 1))

    def test_lines_that_begin_with_the_sign_35_are_passed_over_and_counted(self):
        self.right("#\n# tool 9\n   # what\n#tool\n##\ntool 1\n#here\nhere\n#", (0, 0, 1))
        self.wrong_at(3, "# what\ntool 1\nwhat\n")
        self.wrong_at(4, "#\n#\n#\n")
        self.wrong_at(4, "#\n#\n#")

    def test_the_sign_35_further_on_is_wrong(self):
        for line in ("here #", "here # why", "here#", "tool #1", "tool 1#", "to 1 #2", "end#", "!#"):
            self.wrong_at(2, f"tool 1\n{line}\nhere")

    def test_every_sign_of_a_word_may_stand_behind_the_sign_35(self):
        self.right("#" + "".join(map(chr, range(32, 127))) + "\ntool 1\n # " + "".join(map(chr, range(126, 31, -1))))

    def test_any_other_sign_makes_no_known_word(self):
        for byte in range(33, 127):
            if chr(byte) not in "#":
                self.wrong_at(2, f"tool 1\n{chr(byte)}\n")
                self.wrong_at(2, f"tool 1\n{chr(byte)}here\n")
                self.wrong_at(2, f"tool 1\nhere{chr(byte)}\n")
                self.wrong_at(2, f"tool 1\nher{chr(byte)}e\n")


class WrongBytes(Reading):
    def test_on_a_line_of_a_program(self):
        for byte in WRONG_BYTES:
            for line in (f"here{chr(byte)}", f"{chr(byte)}here", f"he{chr(byte)}re", f"here {chr(byte)}",
                         f"to 1{chr(byte)}2"):
                self.wrong_at(2, f"tool 1\n{line}\nhere\n")

    def test_on_a_line_that_would_be_passed_over(self):
        for byte in WRONG_BYTES:
            for line in (chr(byte), f"  {chr(byte)} ", f"#{chr(byte)}", f"# why {chr(byte)}", f"{chr(byte)}# why",
                         f" {chr(byte)} # why"):
                self.wrong_at(3, f"tool 1\nhere\n{line}\nhere\n")

    def test_on_the_first_line_and_on_the_last(self):
        for byte in WRONG_BYTES:
            self.wrong_at(1, f"{chr(byte)}")
            self.wrong_at(1, f"#{chr(byte)}\ntool 1\n")
            self.wrong_at(1, f"tool 1{chr(byte)}")
            self.wrong_at(2, f"tool 1\n{chr(byte)}")
            self.wrong_at(2, f"tool 1\n#{chr(byte)}")

    def test_13_and_9_are_no_blanks(self):
        self.wrong_at(1, "tool 1\r\nhere\r\n")
        self.wrong_at(1, "tool\t1\nhere\n")
        self.wrong_at(2, "tool 1\n\there\n")
        self.wrong_at(2, "tool 1\n# why\r\nhere\n")
        self.wrong_at(1, "tool 1\rhere\n")

    def test_11_12_28_and_133_end_no_line(self):
        for byte in (11, 12, 28, 29, 30, 133):
            self.wrong_at(1, f"tool 1{chr(byte)}here\nhere\n")

    def test_the_first_wrong_line_is_told(self):
        self.wrong_at(2, "tool 1\nwhat\n#\t\n")
        self.wrong_at(2, "tool 1\n#\t\nwhat\n")


class Words(Reading):
    RIGHT = ("tool 2", "to 1 2", "go 1 2", "at 1 2", "by 1 2", "here", "run 3 1 2", "rep 0\nend")

    def test_each_line(self):
        for line in self.RIGHT:
            self.assertGreaterEqual(ask_last(run_of(f"tool 1\n{line}\n"))[0], 0)

    def test_too_few_words(self):
        for line in ("tool", "to", "to 1", "go", "go 1", "at", "at 1", "by", "by 1", "run", "run 3", "run 3 1", "rep"):
            self.wrong_at(2, f"tool 1\n{line}\nend\n")

    def test_too_many_words(self):
        for line in ("tool 2 3", "to 1 2 3", "go 1 2 3", "at 1 2 3", "by 1 2 3", "here 1", "here here", "run 3 1 2 3",
                     "rep 1 1", "tool 2 #"):
            self.wrong_at(2, f"tool 1\n{line}\nend\n")
        self.wrong_at(3, "tool 1\nrep 1\nend 1\n")
        self.wrong_at(3, "tool 1\nrep 1\nend end\n")

    def test_unknown_words(self):
        for line in ("what", "Here", "HERE", "heres", "her", "tools 1", "Tool 1", "TOOL 1", "tool1", "t ool 1",
                     "goto 1 2", "At 1 2", "Rep 1", "End", "1", "1 2", "-1", "0", "loop 1", "?", "!", "by1 2",
                     "repeat 1"):
            self.wrong_at(2, f"tool 1\n{line}\nhere\n")

    def test_a_word_for_a_number(self):
        for word in ("here", "x", "tool", "?", "!", "#", "1x", "x1", "1,2", "1.0", "1e3", "0x1", "1_0", "--1", "1-",
                     "-1-", "+1", "+0", "-", "+", "-x"):
            self.wrong_at(2, f"tool 1\nto {word} 1\n")
            self.wrong_at(2, f"tool 1\nto 1 {word}\n")


class Numbers(Reading):
    def test_forms(self):
        for word in ("0", "1", "9", "10", "1234567890", "9999999999", "-1", "-9", "-10", "-9999999999"):
            self.assertIs(is_number(word), True, word)
        for word in ("", "-", "-0", "00", "01", "-00", "-01", "+1", "+0", "--1", "1-", "-1-1", "12345678901",
                     "-12345678901", "00000000001", "0000000000", "10000000000", "1x", "x", "?", "1 ", " 1", "-?"):
            self.assertIs(is_number(word), False, word)

    def test_0_and_what_looks_like_it(self):
        self.right("tool 1\nat 0 0\nrep 0\nend", (0, 0, 1))
        for word in ("-0", "00", "000", "-00", "+0"):
            for line in (f"to {word} 1", f"to 1 {word}", f"rep {word}", f"run {word} 1 1", f"run 1 {word} 1"):
                self.wrong_at(2, f"tool 1\n{line}\nend\n")

    def test_no_digit_0_in_front(self):
        self.wrong_at(1, "tool 01")
        for line in ("to 01 1", "go 1 01", "at -01 1", "by 1 -01", "run 01 1 1", "run 1 01 1", "run 1 1 01", "rep 01"):
            self.wrong_at(2, f"tool 1\n{line}\nend\n")

    def test_no_plus_and_no_lone_minus(self):
        self.wrong_at(1, "tool +1")
        self.wrong_at(1, "tool -")
        for line in ("to +1 1", "to 1 +1", "to - 1", "to 1 -", "run +1 1 1", "rep +1", "rep -", "to - 1 1"):
            self.wrong_at(2, f"tool 1\n{line}\nend\n")

    def test_ten_digits_and_eleven(self):
        self.right("tool 1\nat 1234567890 -1234567890", (1234567890, -1234567890, 1))
        for line in ("to 12345678901 1", "to 1 -12345678901", "to 00000000001 1", "to 1 10000000000",
                     "rep 00000000001"):
            self.wrong_at(2, f"tool 1\n{line}\nend\n")

    def test_a_number_as_long_as_the_text(self):
        self.wrong_at(2, "tool 1\nto 1 " + "9" * 16000)
        self.wrong_at(2, "tool 1\nto 1 -" + "1" * 16000)

    def test_the_ends_of_the_tool(self):
        self.right("tool 1\nhere\ntool 10000000\nhere", (0, 0, 1), (0, 0, 10000000))
        for word in ("0", "-1", "10000001", "9999999999", "-10000000"):
            self.wrong_at(1, f"tool {word}\nhere")
            self.wrong_at(2, f"tool 1\ntool {word}\nhere")

    def test_the_ends_of_points(self):
        far = 2000000000
        for word in ("to", "go", "at", "by", "run 1"):
            for x, y in ((far, 0), (-far, 0), (0, far), (0, -far), (far, -far)):
                drills = word in ("at", "by", "run 1")
                self.right(f"tool 1\n{word} {x} {y}", *([(x, y, 1)] if drills else []))
            for x, y in ((far + 1, 0), (-far - 1, 0), (0, far + 1), (0, -far - 1), (9999999999, 0), (0, -9999999999)):
                self.wrong_at(2, f"tool 1\n{word} {x} {y}")

    def test_the_ends_of_run(self):
        self.right("tool 1\nrun 1 2 3", (2, 3, 1))
        self.assertEqual(ask_last(run_of("tool 1\nrun 1000 0 0")), [1000, *[0, 0, 1] * 1000])
        for word in ("0", "-1", "1001", "9999999999", "-1000"):
            self.wrong_at(2, f"tool 1\nrun {word} 2 3")

    def test_the_ends_of_rep(self):
        self.right("tool 1\nrep 0\nhere\nend")
        self.right("tool 1\nrep 1\nhere\nend", (0, 0, 1))
        self.assertEqual(ask_last(run_of("tool 1\nrep 1000\nhere\nend")), [1000, *[0, 0, 1] * 1000])
        for word in ("-1", "1001", "9999999999", "-1000"):
            self.wrong_at(2, f"tool 1\nrep {word}\nhere\nend")


class FirstTool(Reading):
    def test_any_other_line_before_it_is_wrong(self):
        for line in ("to 1 2", "go 1 2", "at 1 2", "by 1 2", "here", "run 1 1 2", "rep 0", "rep 1", "end",
                     "what", "tool"):
            self.wrong_at(1, f"{line}\ntool 1\nend\n")
            self.wrong_at(4, f"# why\n\n  \n{line}\ntool 1\nend\n")

    def test_none_at_all(self):
        self.wrong_at(2, "# tool 1")
        self.wrong_at(5, "# tool 1\n\n  \n#\n")
        self.wrong_at(6, "# tool 1\n\n  \n#\n ")

    def test_a_wrong_tool_line_is_told_itself(self):
        self.wrong_at(2, "\ntool 0\ntool 1\nhere\n")

    def test_one_within_a_loop_comes_too_late(self):
        self.wrong_at(1, "rep 1\ntool 1\nend\n")

    def test_more_of_them(self):
        self.right("tool 1\ntool 2\nhere\ntool 1\n", (0, 0, 2))


class Loops(Reading):
    def test_end_with_none_open(self):
        self.wrong_at(2, "tool 1\nend")
        self.wrong_at(4, "tool 1\nrep 1\nend\nend\n")
        self.wrong_at(5, "tool 1\nrep 2\nend\n# why\nend\nrep 1\n")

    def test_open_at_the_end(self):
        self.wrong_at(3, "tool 1\nrep 1")
        self.wrong_at(3, "tool 1\nrep 1\n")
        self.wrong_at(4, "tool 1\nrep 1\n\n")
        self.wrong_at(4, "tool 1\nrep 1\n ")
        self.wrong_at(4, "tool 1\nrep 0\n#")
        self.wrong_at(5, "tool 1\nrep 1\nrep 1\nend\n")
        self.wrong_at(7, "tool 1\nrep 1\nend\nrep 1\nhere\n# end\n")

    def test_a_wrong_line_before_a_loop_that_stays_open(self):
        self.wrong_at(3, "tool 1\nrep 1\nwhat\n")

    def test_8_open_at_once(self):
        self.right("tool 1\n" + "rep 1\n" * 8 + "here\n" + "end\n" * 8, (0, 0, 1))

    def test_9_open_at_once(self):
        self.wrong_at(10, "tool 1\n" + "rep 1\n" * 9 + "here\n" + "end\n" * 9)
        self.wrong_at(10, "tool 1\n" + "rep 1\n" * 9)
        self.wrong_at(11, "tool 1\n\n" + "rep 0\n" * 9 + "end\n" * 9)

    def test_8_open_and_one_more_when_one_is_closed(self):
        self.right("tool 1\n" + "rep 1\n" * 8 + "here\nend\nrep 2\nhere\n" + "end\n" * 8, *[(0, 0, 1)] * 3)
        self.wrong_at(13, "tool 1\n" + "rep 1\n" * 8 + "end\nrep 2\nhere\nrep 1\n" + "end\n" * 9)

    def test_many_one_behind_another(self):
        self.right("tool 1\n" + "rep 1\nhere\nend\n" * 20, *[(0, 0, 1)] * 20)

    def test_a_wrong_line_that_would_not_be_done(self):
        self.wrong_at(3, "tool 1\nrep 0\nwhat\nend\n")


class WrongBeforeTooMuch(Reading):
    def test_lines(self):
        self.wrong_at(6, "tool 1\nrep 1000\nrep 1000\nend\nend\nwhat\n")

    def test_holes(self):
        self.wrong_at(5, "tool 1\nrun 1000 0 0\nrun 1000 0 0\nrun 1000 0 0\nend\n")
        self.wrong_at(5, "tool 1\nrun 1000 0 0\nrun 1000 0 0\nrep 1000\n")


class LongTexts(Reading):
    def test_16900_line_feeds(self):
        self.wrong_at(16901, "\n" * 16900)

    def test_a_wrong_line_far_down(self):
        self.wrong_at(16890, "tool 1" + "\n" * 16889 + "what")

    def test_one_long_line(self):
        self.right("tool 1\n" + "#" * 16893)
        self.right("tool" + " " * 16895 + "1")
        self.wrong_at(1, "x" * 16900)


if __name__ == "__main__":
    unittest.main()
