import unittest

from tests.helpers import ask, begin

HEAD = "table t balls 2\n"
SWITCHES = HEAD + "".join([f"switch s{p} at {p} close 1 open 1\n" for p in range(20)])
LAMPS = SWITCHES + "lamp l at 4\n"
COILS = LAMPS + "".join([f"coil c{p} at {p} most {p + 1}0 rest 1\n" for p in range(20)])
DEVICES = COILS + "device d0 by c0 holds s0 s1 drain\n"
KICKS = DEVICES + "kick s5 c5 for 9 till s0\n"


class Faults(unittest.TestCase):
    def told(self, kind, marked):
        """The sign @ marks the fault's place; it isn't part of the text."""
        place = marked.index("@")
        self.assertEqual(ask(begin(marked[:place] + marked[place + 1:])), [[-6, kind, place]], marked[-80:])

    def right(self, text):
        self.assertEqual(ask(begin(text)), [[0]], text[-80:])

    def numbers(self, text, least, most, barred=()):
        """text has a sign # where a number from least to most has to be."""
        for number in (least, most):
            if number not in barred:
                self.right(text.replace("#", str(number)))
        for word in (str(most + 1), "0" + str(most), "00", "+1", "-1", "1_0", "a", "1a", "1.0", "1:", "/", ":",
                     "9" * 5000):
            self.told(4, text.replace("#", "@" + word))
        if least > 0:
            self.told(4, text.replace("#", "@" + str(least - 1)))

    def names(self, text):
        """text has a sign # where a name has to be."""
        for word in ("a" * 13, "A", "aB", "1a", "_a", "a-b", "a.", "a/", "a:", "a^", "a{", "{", "`", "~", "a" * 1000):
            self.told(4, text.replace("#", "@" + word))


class NotEnded(Faults):
    def test_no_byte(self):
        self.told(1, "@")

    def test_last_line_not_ended(self):
        self.told(1, "table@")
        self.told(1, "table t balls 2@")
        self.told(1, HEAD + "s@")
        self.told(1, KICKS[:-1] + "@")

    def test_what_is_in_a_line_not_ended_is_not_looked_at(self):
        self.told(1, " @")
        self.told(1, "x  \x00@")
        self.told(1, HEAD + "nonsense \x7f@")

    def test_lines_before_come_first(self):
        self.told(3, "@nonsense\nx")
        self.told(3, "@\nx")


class WrongBytes(Faults):
    def test_bytes(self):
        for byte in ("\x00", "\t", "\r", "\x0b", "\x1f", "\x7f", "\x80", "\xff"):
            self.told(2, "table t@" + byte + " balls 2\n")
            self.told(2, HEAD + "@" + byte + "\n")

    def test_the_outermost_bytes_that_are_right(self):
        self.told(4, "table @! balls 2\n")
        self.told(4, "table @~ balls 2\n")

    def test_blanks(self):
        self.told(2, "@ table t balls 2\n")
        self.told(2, "table @ t balls 2\n")
        self.told(2, "table t balls 2@ \n")
        self.told(2, "@ \n")
        self.told(2, "table t balls 2 @ \n")
        self.told(2, HEAD + "@ switch s at 0 close 1 open 1\n")
        self.told(2, KICKS + "@ \n")

    def test_the_first_one_is_told(self):
        self.told(2, "table @ t \x00\n")
        self.told(2, "table @\x00  t\n")

    def test_bytes_come_before_words_of_the_line(self):
        self.told(2, "nonsense t balls 2@ \n")
        self.told(2, HEAD + "lamp loop at @ 4\n")

    def test_words_of_lines_before_come_first(self):
        self.told(3, "@nonsense t balls 2\n \n")
        self.told(4, "table @T balls 2\n\x00\n")


class WrongWords(Faults):
    def test_first_line(self):
        self.told(3, "@switch s at 0 close 1 open 1\n")
        self.told(3, "@tables t balls 2\n")
        self.told(3, "@TABLE t balls 2\n")
        self.told(3, "@T balls 2\n")
        self.told(3, "@\n")

    def test_empty_lines(self):
        self.told(3, HEAD + "@\n")
        self.told(3, KICKS + "@\n")

    def test_first_words_of_later_lines(self):
        self.told(3, HEAD + "@table t balls 2\n")
        self.told(3, HEAD + "@balls\n")
        self.told(3, HEAD + "@Switch s at 0 close 1 open 1\n")
        self.told(3, KICKS + "@table\n")

    def test_sorts_that_cannot_come_any_more(self):
        lines = {"switch": "switch z at 60 close 1 open 1\n", "lamp": "lamp z at 60\n",
                 "coil": "coil z at 30 most 1 rest 1\n", "device": "device z by c9 holds s9\n"}
        for behind, barred in ((LAMPS, 1), (COILS, 2), (DEVICES, 3), (KICKS, 4)):
            for sort in ("switch", "lamp", "coil", "device")[:barred]:
                self.told(3, behind + "@" + lines[sort])

    def test_sorts_may_be_left_out(self):
        self.told(6, HEAD + "device d by @c holds s\n")
        self.told(6, HEAD + "kick @s c for 1\n")
        self.told(8, HEAD + "lamp l at 0\n@")
        self.told(8, HEAD + "coil c at 0 most 1 rest 1\n@")

    def test_words_missing(self):
        for before, line in ((HEAD, "switch s at 0 close 1 open 1"), (SWITCHES, "lamp l at 4"),
                             (LAMPS, "coil c at 0 most 1 rest 1"), (COILS, "device d0 by c0 holds s0"),
                             (DEVICES, "kick s5 c5 for 9"), ("", "table t balls 2")):
            words = line.split(" ")
            for many in range(1, len(words)):
                self.told(3, before + " ".join(words[:many]) + "@\n")
        self.told(3, LAMPS + "coil c at 0 most 1 rest 1 hold@\n")
        self.told(3, DEVICES + "kick s5 c5 for 9 till@\n")

    def test_words_that_have_to_be(self):
        self.told(3, "table t @ball 2\n")
        self.told(3, "table t @2\n")
        for before, line, fixed in ((HEAD, "switch s at 0 close 1 open 1", ("at", "close", "open")),
                                    (SWITCHES, "lamp l at 4", ("at",)),
                                    (LAMPS, "coil c at 0 most 1 rest 1 hold 1", ("at", "most", "rest", "hold")),
                                    (COILS, "device d0 by c0 holds s0", ("by", "holds")),
                                    (DEVICES, "kick s5 c5 for 9 till s0", ("for", "till"))):
            for word in fixed:
                for wrong in (word + "x", word.upper(), "5", "!"):
                    self.told(3, before + line.replace(f" {word} ", f" @{wrong} ") + "\n")

    def test_words_behind_the_last(self):
        self.told(3, "table t balls 2 @x\n")
        self.told(3, HEAD + "switch s at 0 close 1 open 1 @x\n")
        self.told(3, HEAD + "switch s at 0 close 1 open 1 turned @turned\n")
        self.told(3, SWITCHES + "lamp l at 4 @x\n")
        self.told(3, LAMPS + "coil c at 0 most 1 rest 1 @x\n")
        self.told(3, LAMPS + "coil c at 0 most 1 rest 1 hold 1 @x\n")
        self.told(3, COILS + "device d by c0 holds s0 drain @drain\n")
        self.told(3, COILS + "device d by c0 holds s0 drain @s1\n")
        self.told(3, DEVICES + "kick s5 c5 for 9 @x\n")
        self.told(3, DEVICES + "kick s5 c5 for 9 till s0 @x\n")

    def test_behind_the_eighth_switch(self):
        eight = COILS + "device d by c0 holds s0 s1 s2 s3 s4 s5 s6 s7"
        self.right(eight + " drain\n")
        for word in ("s8", "s0", "Z", "zz", "9"):
            self.told(3, eight + f" @{word}\n")
        self.told(3, eight + " drain @drain\n")

    def test_a_ninth_device(self):
        eight = COILS + "".join([f"device d{k} by c{k} holds s{k} drain\n" for k in range(8)])
        self.right(eight)
        self.told(3, eight + "@device d8 by c8 holds s8\n")
        self.told(3, eight + "@device\n")

    def test_a_ninth_kick(self):
        eight = DEVICES + "".join([f"kick s{k} c{k} for 1\n" for k in range(2, 10)])
        self.right(eight)
        self.told(3, eight + "@kick s10 c10 for 1\n")
        self.told(3, eight + "@kick\n")


class WrongForms(Faults):
    REST = "lamp l at 4\ncoil c at 0 most 255 rest 1\ncoil k at 9 most 255 rest 1\ndevice d by c holds s0 s1 drain\n"

    def test_new_names(self):
        self.names("table # balls 2\n")
        self.names(HEAD + "switch # at 0 close 1 open 1\n")
        self.names(SWITCHES + "lamp # at 0\n")
        self.names(LAMPS + "coil # at 0 most 1 rest 1\n")
        self.names(COILS + "device # by c0 holds s0\n")

    def test_known_names(self):
        self.names(COILS + "device d by # holds s0\n")
        self.names(COILS + "device d by c0 holds #\n")
        self.names(COILS + "device d by c0 holds s0 #\n")
        self.names(DEVICES + "kick # c5 for 9\n")
        self.names(DEVICES + "kick s5 # for 9\n")
        self.names(DEVICES + "kick s5 c5 for 9 till #\n")

    def test_longest_and_shortest_names(self):
        for name in ("a", "z", "a" * 12, "a_09z", "z__________9"):
            self.right(DEVICES.replace("table t", "table " + name))
            self.right(DEVICES.replace(" s0 ", f" {name} "))

    def test_barred_names(self):
        self.told(4, HEAD + "switch @drain at 0 close 1 open 1\n")
        self.told(4, SWITCHES + "lamp @loop at 0\n")
        self.told(8, HEAD + "switch loop at 0 close 1 open 1\nlamp drain at 0\ncoil drain at 0 most 1 rest 1\n"
                  + "coil loop at 1 most 1 rest 1\ndevice drain by loop holds loop\n@")

    def test_balls(self):
        nine = "".join([f"switch s{p} at {p} close 1 open 1\n" for p in range(8)])
        nine += "coil c at 0 most 1 rest 1\ndevice d by c holds s0 s1 s2 s3 s4 s5 s6 s7 drain\n"
        self.numbers("table t balls #\n" + nine, 1, 8)

    def test_numbers_of_a_switch(self):
        head, rest = HEAD + "switch s0 at 0 close 1 open 1\n", self.REST
        self.numbers(head + "switch s1 at # close 1 open 1\n" + rest, 0, 63, (0,))
        self.numbers(HEAD + "switch s0 at # close 1 open 1\nswitch s1 at 63 close 1 open 1\n" + rest, 0, 63, (63,))
        self.numbers(head + "switch s1 at 1 close # open 1\n" + rest, 1, 31)
        self.numbers(head + "switch s1 at 1 close 1 open # turned\n" + rest, 1, 31)

    def test_numbers_of_a_lamp(self):
        text = LAMPS.replace("lamp l at 4", "lamp l at #")
        self.numbers(text + "coil c at 0 most 1 rest 1\ndevice d by c holds s0 s1 drain\n", 0, 63)

    def test_numbers_of_a_coil(self):
        end = "device d by c holds s0 s1 drain\n"
        self.numbers(LAMPS + "coil c at # most 1 rest 1\n" + end, 0, 31)
        self.numbers(LAMPS + "coil c at 0 most # rest 1\n" + end, 1, 1023)
        self.numbers(LAMPS + "coil c at 0 most 1 rest #\n" + end, 1, 4095)
        self.numbers(LAMPS + "coil c at 0 most 1 rest 1 hold #\n" + end, 1, 15)

    def test_ticks_of_a_kick(self):
        coils = LAMPS + "coil c at 0 most 1 rest 1\ncoil k at 1 most 1023 rest 1\n"
        self.numbers(coils + "device d by c holds s0 s1 drain\nkick s5 k for #\n", 1, 255)


class NotNew(Faults):
    def test_names(self):
        self.told(5, SWITCHES + "switch @s3 at 63 close 1 open 1\n")
        self.told(5, LAMPS + "lamp @l at 63\n")
        self.told(5, COILS + "coil @c3 at 31 most 1 rest 1\n")
        self.told(5, DEVICES + "device @d0 by c1 holds s2\n")

    def test_two_sorts_may_share_names(self):
        self.right(DEVICES.replace("lamp l ", "lamp s0 ").replace("c0", "s0").replace("d0", "s0"))
        self.right(DEVICES.replace("table t", "table s0"))

    def test_places(self):
        for place in (18, 19, 0):
            self.told(5, SWITCHES + f"switch z at @{place} close 1 open 1\n")
            self.told(5, COILS + f"coil z at @{place} most 1 rest 1\n")
        for place in (3, 4, 0):
            self.told(5, LAMPS + f"lamp z at @{place}\n")

    def test_places_rise_within_a_sort_alone(self):
        self.told(8, HEAD + "switch s at 63 close 1 open 1\nlamp l at 0\ncoil c at 0 most 1 rest 1\n@")

    def test_places_of_kicks(self):
        self.told(5, KICKS + "kick @s5 c6 for 1\n")
        self.told(5, KICKS + "kick @s4 c6 for 1\n")
        self.right(KICKS + "kick s6 c6 for 1\n")

    def test_names_come_before_places_of_the_line(self):
        self.told(5, SWITCHES + "switch @s3 at 3 close 1 open 1\n")


class NotKnown(Faults):
    def test_names(self):
        self.told(6, COILS + "device d by @z holds s0\n")
        self.told(6, COILS + "device d by c0 holds @z\n")
        self.told(6, COILS + "device d by c0 holds s0 @z\n")
        self.told(6, DEVICES + "kick @z c5 for 9\n")
        self.told(6, DEVICES + "kick s5 @z for 9\n")
        self.told(6, DEVICES + "kick s5 c5 for 9 till @z\n")

    def test_names_of_another_sort(self):
        self.told(6, COILS + "device d by @s0 holds s0\n")
        self.told(6, COILS + "device d by c0 holds @c0\n")
        self.told(6, COILS + "device d by c0 holds @l\n")
        self.told(6, DEVICES + "kick @c5 c5 for 9\n")
        self.told(6, DEVICES + "kick s5 @s5 for 9\n")
        self.told(6, DEVICES + "kick s5 c5 for 9 till @c5\n")

    def test_drain_first_behind_holds(self):
        self.told(6, COILS + "device d by c0 holds @drain\n")
        self.told(6, COILS + "device d by c0 holds @drain s0\n")

    def test_drain_elsewhere(self):
        self.told(6, DEVICES + "kick @drain c5 for 9\n")
        self.told(6, DEVICES + "kick s5 c5 for 9 till @drain\n")
        self.told(6, COILS + "device d by @drain holds s0\n")


class NotFree(Faults):
    def test_devices(self):
        self.told(7, DEVICES + "device d1 by @c0 holds s2\n")
        self.told(7, DEVICES + "device d1 by c1 holds @s0\n")
        self.told(7, DEVICES + "device d1 by c1 holds s2 @s1\n")
        self.told(7, DEVICES + "device d1 by c1 holds s2 @s2\n")
        self.told(7, COILS + "device d1 by c1 holds s2 s3 s4 s5 s6 s7 s8 @s2\n")

    def test_kicks(self):
        self.told(7, DEVICES + "kick @s0 c5 for 9\n")
        self.told(7, DEVICES + "kick s5 @c0 for 9\n")
        self.told(7, KICKS + "kick s6 @c5 for 9\n")
        self.told(7, DEVICES + "kick s5 c5 for 9 till @s5\n")

    def test_ticks_above_the_most_of_the_coil(self):
        self.right(DEVICES + "kick s5 c5 for 60\n")
        self.told(7, DEVICES + "kick s5 c5 for @61\n")
        self.told(4, DEVICES + "kick s5 c5 for @256\n")

    def test_second_switches_are_free_to_be_anywhere(self):
        self.right(KICKS + "kick s6 c6 for 9 till s0\n")
        self.right(KICKS + "kick s6 c6 for 9 till s5\n")
        self.right(DEVICES + "kick s5 c5 for 9 till s6\nkick s6 c6 for 9\n")

    def test_the_least_kind_of_a_word(self):
        self.told(5, KICKS + "kick @s1 c6 for 1\n")

    def test_the_first_word_at_fault(self):
        self.told(7, DEVICES + "kick @s0 Z for 0 till\n")
        self.told(7, DEVICES + "device d1 by @c0 hold\n")


class FewDrains(Faults):
    def test_the_texts_built_upon_are_right(self):
        self.right(DEVICES)
        self.right(KICKS)

    def test_first_line_alone(self):
        self.told(8, HEAD + "@")
        self.told(8, "table t balls 1\n@")

    def test_how_many_the_drains_hold(self):
        self.told(8, COILS + "device d by c0 holds s0 drain\n@")
        self.told(8, COILS + "device d by c0 holds s0 s1\n@")
        self.told(8, COILS + "device d by c0 holds s0 drain\ndevice e by c1 holds s1 s2 s3\n@")
        self.right(COILS + "device d by c0 holds s0 drain\ndevice e by c1 holds s1 drain\n")
        self.right(COILS + "device d by c0 holds s0 s1 s2 drain\n")
        self.right(COILS + "device d by c0 holds s2 s3\ndevice e by c1 holds s0 s1 drain\n")

    def test_all_else_comes_first(self):
        self.told(3, HEAD + "@nonsense\n")
        self.told(1, HEAD + "x@")


if __name__ == "__main__":
    unittest.main()
