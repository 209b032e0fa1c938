import unittest

from tests.helpers import KICKS, PLAIN, ask, begin, now, soon, stands, ticks

FULL = """table full balls 3
switch s0 at 0 close 1 open 31
switch s1 at 1 close 31 open 1 turned
switch s2 at 2 close 5 open 5
switch s3 at 62 close 5 open 5 turned
switch s4 at 63 close 5 open 5
lamp s0 at 0
lamp drain at 63
coil s0 at 0 most 1 rest 1
coil loop at 1 most 1023 rest 4095 hold 15
coil drain at 30 most 255 rest 9 hold 1
coil c at 31 most 255 rest 9
device s0 by s0 holds s0 s1 drain
device loop by c holds s2 drain
kick s3 loop for 255 till s4
kick s4 drain for 1 till s0
"""


class RightTables(unittest.TestCase):
    def test_lines_of_each_sort(self):
        self.assertEqual(ask(begin(FULL)), [[0]])

    def test_a_new_table_is_free_at_tick_0_with_kicks_off(self):
        found = ask(begin(KICKS), now(), stands(0), stands(4), stands(9), stands(12))
        self.assertEqual(found, [[0], [0, 0, 0]] + [[0, 0, 0]] * 4)

    def test_the_least_table(self):
        least = "table t balls 1\nswitch s at 0 close 1 open 1\ncoil c at 0 most 1 rest 1\n"
        self.assertEqual(ask(begin(least + "device d by c holds s drain\n")), [[0]])

    def test_words_of_the_document_may_be_names(self):
        text = ("table table balls 1\nswitch switch at 0 close 1 open 1\nswitch at at 1 close 1 open 1\n"
                "lamp lamp at 0\ncoil holds at 0 most 1 rest 1\ncoil for at 1 most 1 rest 1\n"
                "device by by holds holds switch drain\nkick at for for 1\n")
        self.assertEqual(ask(begin(text)), [[0]])

    def test_most_lines_of_each_sort(self):
        lines = ["table t balls 8"]
        lines += [f"switch s{p} at {p} close 1 open 1" for p in range(64)]
        lines += [f"lamp l{p} at {p}" for p in range(64)]
        lines += [f"coil c{p} at {p} most 9 rest 9" for p in range(32)]
        for device in range(8):
            held = " ".join([f"s{8 * device + k}" for k in range(7)])
            lines.append(f"device d{device} by c{device} holds {held} drain")
        lines += [f"kick s{8 * k + 7} c{8 + k} for 9" for k in range(8)]
        self.assertEqual(ask(begin("\n".join(lines) + "\n")), [[0]])

    def test_eight_switches_in_a_device_with_and_without_drain(self):
        switches = "".join([f"switch s{p} at {p} close 1 open 1\n" for p in range(16)])
        coils = "coil c at 0 most 1 rest 1\ncoil d at 1 most 1 rest 1\n"
        first = "device a by c holds " + " ".join([f"s{p}" for p in range(8)]) + "\n"
        second = "device b by d holds " + " ".join([f"s{p}" for p in range(8, 16)]) + " drain\n"
        self.assertEqual(ask(begin("table t balls 8\n" + switches + coils + first + second)), [[0]])

    def test_what_a_kick_shares_without_fault(self):
        text = KICKS.replace("kick sling sling for 3\n", "kick sling sling for 6 till trough\n")
        self.assertEqual(ask(begin(text)), [[0]])


class Refusals(unittest.TestCase):
    def test_bytes_granted(self):
        self.assertEqual(ask(begin("x" * 16384)), [[-6, 1, 16384]])
        self.assertEqual(ask(begin("x" * 16385)), [[-2]])
        self.assertEqual(ask(begin("x" * 16384, 0)), [[-6, 1, 16384]])
        self.assertEqual(ask(begin("x" * 16385, 33)), [[-2]])

    def test_supply(self):
        for supply, answer in ((0, -1), (1, 0), (2, 0), (31, 0), (32, 0), (33, -1), (4294967295, -1)):
            self.assertEqual(ask(begin(PLAIN, supply)), [[answer]], supply)

    def test_a_fault_is_told_before_the_supply(self):
        self.assertEqual(ask(begin("", 0)), [[-6, 1, 0]])


class AgainBegun(unittest.TestCase):
    RUN = ticks(3, [], [(0, 5, 0, 1), (1, 0, 0, 4)])

    def test_begin_behind_begin_is_new(self):
        found = ask(begin(KICKS), self.RUN, now(), begin(KICKS), now(), stands(0), stands(4))
        self.assertEqual(found[2], [0, 3, 1])
        self.assertEqual(found[3:], [[0], [0, 0, 0], [0, 0, 0], [0, 0, 0]])

    def test_begin_takes_the_new_table(self):
        found = ask(begin(KICKS), begin(PLAIN, 1), stands(12), stands(3))
        self.assertEqual(found, [[0], [0], [-4], [0, 0, 0]])

    def test_a_new_begin_takes_the_new_supply(self):
        both = ticks(1, [], [(0, 0, 0, 1), (0, 0, 3, 1)])
        self.assertEqual(ask(begin(PLAIN, 1), both, begin(PLAIN, 2), both)[1::2], [[0, 1], [0, 9]])

    def test_a_refused_begin_leaves_all_as_it_was(self):
        for refused in (begin("x" * 16385), begin("table"), begin(PLAIN, 0), begin(PLAIN, 33)):
            found = ask(begin(KICKS), self.RUN, refused, now(), stands(0), soon(4), ticks(3))
            self.assertLess(found[2][0], 0)
            self.assertEqual(found[3:], [[0, 3, 1], [0, 1, 2, 0, 0], [0, 0], [0, 1, 1, 0]])


class NothingBegun(unittest.TestCase):
    CALLS = (ticks(1), soon(0), stands(0), now())
    # These would be refused for other reasons too.
    WRONG = (ticks(4097), ticks(0, [(0, 0)]), soon(32), soon(1), stands(32), stands(1))

    def test_each_call_but_begin(self):
        self.assertEqual(ask(*self.CALLS), [[-10]] * 4)

    def test_before_all_else(self):
        self.assertEqual(ask(*self.WRONG), [[-10]] * 6)

    def test_behind_a_refused_begin(self):
        for refused in (begin(""), begin("x" * 16385), begin(PLAIN, 0)):
            self.assertEqual(ask(refused, *self.CALLS)[1:], [[-10]] * 4)


if __name__ == "__main__":
    unittest.main()
