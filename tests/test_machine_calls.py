"""The calls of the machine: new, program, get, set, read and write; what is refused, and what stays."""

from floathalf.processor import answers
from tests.helper import BYTES, CAUSE, FFLAGS, FILLED, FRM, LOOK, NO_CAUSE, PC, REFUSED, STOP_WORD, VALUE, MachineTest
from tests.helper import add_one, f, line, program_call, set_calls, split, states, word_float, write_call

TOP = 2**64 - 1
BIG = 2**32 - 1
AT_FIRST = [0] * CAUSE + [NO_CAUSE, 0] + [0] * 4096
ROW = [at * 3 % 256 for at in range(200)]

# What makes every place of the machine other than at first.
FILL = ([program_call([add_one(9), 0x13, 0xFFFFFFFF])] + set_calls({**FILLED, FRM: 5, FFLAGS: 21})
        + [write_call(at, ROW) for at in range(1, 3900, 200)] + [[8, 9]])


class Filled(MachineTest):
    def behind(self, calls):
        """The states ahead of the calls and behind them, and the calls' answers."""
        found, told = states([FILL, calls])
        return found[0], found[1], told[1]

    def changes(self, calls, told, changes):
        before, after, heard = self.behind(calls)
        self.assertEqual(heard, told)
        for place, v in changes.items():
            before[place] = v
        self.same_state(after, before)

    def refused(self, call):
        self.changes([call], [REFUSED], {})


class AtFirst(Filled):
    def test_every_place(self):
        found, told = states([[]])
        self.same_state(found[0], AT_FIRST)

    def test_new(self):
        before, after, told = self.behind([[6]])
        self.assertEqual(told, [[0, 0]])
        self.assertNotIn(0, before[1:FFLAGS + 1])
        self.assertEqual((before[CAUSE], before[VALUE]), (2, 0xFFFFFFFF))
        self.same_state(after, AT_FIRST)

    def test_new_takes_the_program_away(self):
        told = line([program_call([STOP_WORD]), [8, 0], [6], [8, 1], [9, PC]])
        self.assertEqual(told[3:], [[0, 1, 0], [0, 0]])

    def test_new_in_the_middle(self):
        calls = FILL + [[9, 5], [6], [9, 5], [9, f(5)], [11, 0, 2], [10, 5, 77], [9, 5], [6], [9, 5]]
        told = line(calls)[len(FILL):]
        self.assertEqual(told, [[0, FILLED[5]], [0, 0], [0, 0], [0, 0], [0, 2, 0, 0], [0, 0], [0, 77], [0, 0], [0, 0]])

    def test_two_lists_do_not_touch_each_other(self):
        line(FILL)
        found, told = states([[]])
        self.same_state(found[0], AT_FIRST)
        once, again = line(FILL + LOOK), line(FILL + LOOK)
        self.assertEqual(once, again)


class Program(Filled):
    def test_it_changes_pc_alone(self):
        self.changes([program_call([0x13] * 3)], [[0, 0]], {PC: 0})
        self.changes([[10, PC, 8], program_call([0x13] * 3)], [[0, 0], [0, 0]], {PC: 0})

    def test_no_words(self):
        self.changes([program_call([])], [[0, 0]], {PC: 0})
        self.assertEqual(line([program_call([0x13]), program_call([]), [8, 5]])[2], [0, 1, 0])

    def test_1024_words(self):
        told = line([program_call([0x13] * 1024), [8, 1000], [8, 1000], [9, PC]])
        self.assertEqual(told, [[0, 0], [0, 0, 1000], [0, 1, 24], [0, 4096]])

    def test_1025_words_and_more(self):
        for count in (1025, 1026, 4096):
            self.refused(program_call([0x13] * count))
        told = line([program_call([0x13] * 15900), [9, PC]])
        self.assertEqual(told, [REFUSED, [0, 0]])

    def test_a_refused_program_leaves_the_one_that_was(self):
        told = line([program_call([add_one(1)] * 5), [8, 2], program_call([add_one(2)] * 1025), [9, PC], [8, 9],
                     [9, 1], [9, 2]])
        self.assertEqual(told[1:], [[0, 0, 2], REFUSED, [0, 8], [0, 1, 3], [0, 5], [0, 0]])

    def test_the_words_are_executed_as_they_stand(self):
        for word in (0, 1, 0xFFFFFFFF, 0x80000000):
            told = line([program_call([0x13, word]), [8, 2], [9, CAUSE], [9, VALUE]])
            self.assertEqual(told[1:], [[0, 3, 1], [0, 2], [0, word]])


class GetAndSet(Filled):
    def test_registers(self):
        for place in list(range(1, 64)):
            for v in (0, 1, TOP, 2**63, 0x0123456789ABCDEF):
                told = line([[10, place, v], [9, place]])
                self.assertEqual(told, [[0, 0], [0, v]])
            self.changes([[10, place, 12345]], [[0, 0]], {place: 12345})

    def test_x0(self):
        for v in (0, 1, TOP):
            self.changes([[10, 0, v], [9, 0]], [[0, 0], [0, 0]], {})

    def test_what_is_kept_of_the_others(self):
        for v in (0, 1, 7, 8, 31, 32, 0xFD, TOP, TOP - 7, TOP - 31, 2**32, 0x5555555555555555):
            self.changes([[10, FRM, v]], [[0, 0]], {FRM: v % 8})
            self.changes([[10, FFLAGS, v]], [[0, 0]], {FFLAGS: v % 32})
            self.changes([[10, PC, v]], [[0, 0]], {PC: v})

    def test_cause_and_value_are_not_set(self):
        for place in (CAUSE, VALUE):
            for v in (0, 1, TOP):
                self.refused([10, place, v])

    def test_places_beyond(self):
        for place in (69, 70, 96, 100, 128, 255, 256, 65536, 2**31, BIG):
            self.refused([9, place])
            self.refused([10, place, 1])

    def test_get_changes_nothing(self):
        self.changes([[9, place] for place in range(69)][:100],
                     [[0, v] for v in states([FILL])[0][0][:69]], {})

    def test_a_register_set_is_what_a_word_reads(self):
        told = line([[10, 3, 40], [10, f(4), 0x4000000000000000], [10, FRM, 2],
                     program_call([add_one(3), word_float(0x0B, 1, 5, 7, 4, 0)]), [8, 2],
                     [9, 3], [9, f(5)], [9, FFLAGS]])
        self.assertEqual(told[4:], [[0, 0, 2], [0, 41], [0, 0x3FF6A09E667F3BCC], [0, 1]])


class ReadAndWrite(Filled):
    def test_where_bytes_go(self):
        for at in (0, 1, 255, 2048, 4091):
            row = [9, 0, 255, 128, 77]
            changes = {BYTES + at + place: byte for place, byte in enumerate(row)}
            self.changes([write_call(at, row)], [[0, 0]], changes)

    def test_the_whole_memory(self):
        row = [(at * at // 7 + at) % 256 for at in range(4096)]
        told = line([write_call(0, row), [11, 0, 4096], [11, 1000, 3], [11, 4095, 1]])
        self.assertEqual(told, [[0, 0], [0, 4096] + row, [0, 3] + row[1000:1003], [0, 1, row[4095]]])

    def test_the_ends(self):
        told = line([write_call(0, [1]), write_call(4095, [2]), write_call(4094, [3]), [11, 0, 2], [11, 4094, 2],
                     [11, 4095, 1]])
        self.assertEqual(told, [[0, 0]] * 3 + [[0, 2, 1, 0], [0, 2, 3, 2], [0, 1, 2]])

    def test_no_bytes(self):
        for at in (0, 1, 2000, 4095, 4096):
            self.changes([[11, at, 0], write_call(at, [])], [[0, 0], [0, 0]], {})
        for at in (4097, 5000, 65536, BIG):
            self.refused([11, at, 0])
            self.refused(write_call(at, []))

    def test_beyond_the_memory(self):
        for at, n in ((0, 4097), (1, 4096), (4095, 2), (4096, 1), (4097, 0), (4000, 97), (5000, 1), (BIG, 1)):
            self.refused([11, at, n])
            self.refused(write_call(at, [1] * n))
        for at, n in ((0, BIG), (BIG, BIG), (1, BIG), (4096, BIG), (BIG - 4095, 4096), (2**31, 2**31)):
            self.refused([11, at, n])
        told = line([write_call(0, [1] * 15900), [11, 0, 2]])
        self.assertEqual(told, [REFUSED, [0, 2, 0, 0]])

    def test_read_changes_nothing(self):
        before, after, told = self.behind([[11, 1, 200], [11, 0, 4096], [11, 4000, 96]])
        self.assertEqual(told[0], [0, 200] + ROW)
        self.same_state(after, before)

    def test_a_later_write_stays(self):
        told = line([write_call(10, [1, 2, 3, 4]), write_call(12, [8, 9, 10]), [11, 9, 7]])
        self.assertEqual(told[2], [0, 7, 0, 1, 2, 8, 9, 10, 0])


class Nothing(Filled):
    """What is refused, and the calls that answer numbers, change nothing."""

    def test_calls_of_numbers(self):
        one, nan = 0x3FF0000000000000, 0x7FF0000000000001
        calls = [[0, 1, operation, 0, nan, one, 0] for operation in range(16)]
        calls += [[0, 1, 3, 0, one, 0, 0], [0, 0, 2, 0, 1, 1, 0], [1, 1, 1, nan, one], [2, 1, nan], [3, 1, 0, 0, nan],
                  [4, 1, 4, 0, nan], [5, 2, 7, 0, TOP]]
        before, after, told = self.behind(calls)
        self.assertTrue(all(answer[0] == 0 for answer in told))
        self.same_state(after, before)

    def test_refused_calls(self):
        calls = [[0, 3, 0, 0, 0, 0, 0], [0, 0, 16, 0, 0, 0, 0], [0, 0, 0, 5, 0, 0, 0], [1, 0, 5, 0, 0], [2, 3, 0],
                 [3, 0, 3, 0, 0], [4, 0, 8, 0, 0], [5, 0, 0, 5, 0], program_call([0] * 1025), [8, 1001], [9, 69],
                 [10, 67, 1], [11, 4096, 1], write_call(4095, [1, 2])]
        self.changes(calls, [REFUSED] * len(calls), {})

    def test_flags_and_frm_of_the_machine_do_not_touch_the_calls(self):
        told = line([[10, FRM, 3], [10, FFLAGS, 31], [0, 1, 3, 0, 0x3FF0000000000000, 0x4008000000000000, 0],
                     [10, FRM, 7], [3, 1, 0, 1, 0x3FD5555555555555], [9, FFLAGS]])
        self.assertEqual(told[2:], [[0, 0x3FD5555555555555, 1], [0, 0], [0, 0x3EAAAAAA, 1], [0, 31]])


class Flags(Filled):
    """Flags stay raised but where a word or a call writes them."""

    def test_they_stay(self):
        words = [word_float(0x03, 1, 1, 0, 1, 2), word_float(0x00, 1, 1, 0, 2, 2), add_one(5), STOP_WORD]
        told = line([[10, f(1), 0x3FF0000000000000], program_call(words), [8, 1], [9, FFLAGS], [8, 1], [9, FFLAGS],
                     [8, 9], [9, FFLAGS], program_call([]), [9, FFLAGS], [10, FFLAGS, 1], [9, FFLAGS],
                     [6], [9, FFLAGS]])
        self.assertEqual([told[place][1] for place in (3, 5, 7, 9, 11, 13)], [8, 8, 8, 8, 1, 0])

    def test_a_fault_raises_none(self):
        told = line([[10, FRM, 5], program_call([word_float(0x03, 1, 1, 7, 1, 2)]), [8, 1], [9, FFLAGS]])
        self.assertEqual(told[2:], [[0, 3, 0], [0, 0]])


class Lists(Filled):
    def test_how_answers_stand(self):
        told = answers([6, 7, 2, 0x13, 0x73, 8, 5, 9, 67, 10, 5, 9, 11, 4094, 2, 12, 4095, 1, 8, 11, 4095, 1, 9, 69])
        self.assertEqual(told, [2, 0, 0, 2, 0, 0, 3, 0, 2, 2, 2, 0, TOP, 2, 0, 0, 4, 0, 2, 0, 0, 2, 0, 0, 3, 0, 1, 8,
                                1, -1])

    def test_rows_without_numbers(self):
        self.assertEqual(answers([7, 0, 12, 5, 0, 11, 5, 0, 9, 66]), [2, 0, 0, 2, 0, 0, 2, 0, 0, 2, 0, 0])

    def test_what_stands_in_a_refused_row_is_no_call(self):
        calls = [7, 1025] + [6] * 1025 + [12, 4095, 2, 9, 67, 9, 66]
        self.assertEqual(answers(calls), [1, -1, 1, -1, 2, 0, 0])

    def test_what_is_handed_in_stays_as_it_was(self):
        calls = [7, 3, 0x00108093, 0x00113427, 0x73, 10, 2, 40, 12, 0, 3, 1, 2, 3, 8, 9, 11, 0, 60, 8, 1]
        kept = list(calls)
        told = answers(calls)
        self.assertEqual(calls, kept)
        told.append(1)
        self.assertEqual(answers(calls), told[:-1])

    def test_400_calls(self):
        calls = [[10, 1, 5], program_call([add_one(1)] * 1000)] + [[8, 2], [9, 1]] * 199
        told = line(calls)
        self.assertEqual(told[-1], [0, 403])
        self.assertEqual(told[2::2], [[0, 0, 2]] * 199)

    def test_kinds_of_what_is_given_back(self):
        told = answers([number for call in FILL + LOOK for number in call])
        self.assertEqual({type(number) for number in told}, {int})
        self.assertEqual(len(split(told)), len(FILL + LOOK))
