"""Promise 2, decode."""
import unittest

from oneinstruction.words import decode, encode
from reference import (
    EVERY_KIND, EVERY_ROW, FORMS, LEAST_AND_GREATEST, ROWS, answers_again_and_again, bytes_of, edge_operands, line_of,
    one_bit_away, read_by_bits, some_instructions, some_words, word_by_bits, words_of_every_opening,
)

# One word of each reason why it is no instruction's.
NO_INSTRUCTIONS = (
    0x00000000, 0xFFFFFFFF, 0x00000001, 0x80000000, 0x7FFFFFFF,
    0x00000073,  # ecall
    0x00100073,  # ebreak
    0x0FF0000F,  # fence
    0x30001073,  # csrrw x0, mstatus, x0
    0x00001067,  # op of jalr, f 1
    0x00002063,  # op of beq, f 2
    0x00003063,  # op of beq, f 3
    0x00003003,  # op of lb, f 3
    0x00006003,  # op of lb, f 6
    0x00007003,  # op of lb, f 7
    0x00003023,  # op of sb, f 3
    0x00007023,  # op of sb, f 7
    0x02001013,  # slli by 32
    0x40001013,  # slli with srai's g
    0x02005013,  # srli by 32
    0x42005013,  # srai by 32
    0x80005013,  # op and f of srli, g 64
    0x04000033,  # op and f of add, g 2
    0x40001033,  # op and f of sll, g 32
    0x40004033,  # op and f of xor, g 32
    0x42000033,  # op and f of add, g 33
    0x80000033,  # op and f of add, g 64
    0xFE000033,  # op and f of add, g 127
)


def line_by_bits(word):
    """The canonical line by the tests' own reading of the word, or None."""
    found = read_by_bits(word)
    return None if found is None else line_of(*found)


def expected(word, most=64):
    line = line_by_bits(word)
    if line is None or not 0 <= most <= 64:
        return [-1]
    return [-2] if len(line) > most else [len(line)] + bytes_of(line)


class Case(unittest.TestCase):
    def gives(self, word, line):
        self.assertEqual(decode(word, 64), [len(line)] + bytes_of(line), line)


class Lines(Case):
    def test_a_word_of_every_row(self):
        self.assertEqual([line.split()[0] for line, word in EVERY_ROW], list(ROWS))
        for line, word in EVERY_ROW:
            self.gives(word, line)

    def test_several_words_of_every_kind(self):
        self.assertEqual({ROWS[line.split()[0]][0] for line, word in EVERY_KIND}, set(FORMS))
        for line, word in EVERY_KIND:
            self.gives(word, line)

    def test_the_tests_own_reading_agrees_with_the_other_assembler(self):
        for line, word in EVERY_ROW + EVERY_KIND:
            self.assertEqual(line_by_bits(word), line)

    def test_edges_of_every_row(self):
        for name in ROWS:
            for operands in edge_operands(name):
                self.gives(word_by_bits(name, *operands), line_of(name, *operands))

    def test_every_place_in_every_operand(self):
        for name in ROWS:
            n = 6 if ROWS[name][0] != "R" else 0
            for place in range(32):
                for operands in ((place, 5, 9, n), (18, place, 6, n), (10, 21, place, n)):
                    self.gives(word_by_bits(name, *operands), line_of(name, *operands))

    def test_every_number_of_the_narrow_kinds(self):
        for name in ("xori", "jalr", "sw", "srai", "bge"):
            least, greatest, multiple = LEAST_AND_GREATEST[ROWS[name][0]]
            for n in range(least, greatest + 1, multiple):
                self.gives(word_by_bits(name, 11, 22, 13, n), line_of(name, 11, 22, 13, n))

    def test_no_number_of_the_wide_kinds_is_below_its_least(self):
        self.gives(0xFFFFF0B7, "lui x1, 1048575")
        self.gives(0x80000097, "auipc x1, 524288")
        self.gives(0x800000EF, "jal x1, -1048576")
        self.gives(0x7FFFF0EF, "jal x1, 1048574")

    def test_f_and_g_where_the_kind_has_none_belong_to_the_operands(self):
        self.gives(0xFE0070B7, "lui x1, 1040391")
        self.gives(0xFFFFF0EF, "jal x1, -2")
        self.gives(0x40000013, "addi x0, x0, 1024")

    def test_the_form_of_the_bytes(self):
        for line, word in EVERY_ROW + EVERY_KIND:
            answer = decode(word, 64)
            self.assertIs(type(answer), list)
            for number in answer:
                self.assertIs(type(number), int)
            text = bytes(answer[1:]).decode("ascii")
            self.assertRegex(text, r"\A[a-z]+ (x\d+|-?\d+)(, (x\d+|-?\d+))*(\(x\d+\))?\Z")
            self.assertNotRegex(text, r"(?<![0-9])0[0-9]|-0")


class OtherWords(Case):
    def test_no_instruction(self):
        for word in NO_INSTRUCTIONS:
            for most in (0, 1, 20, 63, 64):
                self.assertEqual(decode(word, most), [-1], hex(word))

    def test_one_bit_away_from_an_instruction(self):
        for name in ROWS:
            for operands in ((0, 0, 0, 0), (31, 31, 31, 0), (9, 22, 5, 0)):
                for word in one_bit_away(word_by_bits(name, *operands)):
                    self.assertEqual(decode(word, 64), expected(word), hex(word))

    def test_every_f_and_g_of_the_rows_with_g(self):
        for op in (19, 51):
            for f in range(8):
                for g in range(128):
                    word = g << 25 | 3 << 20 | 2 << 15 | f << 12 | 1 << 7 | op
                    self.assertEqual(decode(word, 64), expected(word), hex(word))

    def test_every_op_f_and_g(self):
        # 3 rows of op alone, 21 of op and f, 21 of op, f and g.
        taken = [word for word in words_of_every_opening() if decode(word, 64) != [-1]]
        self.assertEqual(len(taken), 3 * 8 * 128 + 21 * 128 + 21)
        for word in taken:
            self.assertEqual(decode(word, 64), expected(word), hex(word))

    def test_words_of_all_sorts(self):
        for word in some_words(4000) + some_instructions(9000):
            self.assertEqual(decode(word, 64), expected(word), hex(word))


class Most(Case):
    BESIDE = (-2147483648, -2147483647, -65, -64, -1, 65, 66, 255, 256, 2147483646, 2147483647)

    def test_not_from_0_to_64(self):
        for line, word in EVERY_ROW + EVERY_KIND:
            for most in self.BESIDE:
                self.assertEqual(decode(word, most), [-1], (line, most))

    def test_no_instruction_and_not_from_0_to_64(self):
        for word in NO_INSTRUCTIONS:
            for most in self.BESIDE:
                self.assertEqual(decode(word, most), [-1], (hex(word), most))

    def test_0(self):
        for line, word in EVERY_ROW + EVERY_KIND:
            self.assertEqual(decode(word, 0), [-2], line)

    def test_64(self):
        self.gives(0x00000033, "add x0, x0, x0")
        self.assertEqual(decode(0, 64), [-1])

    def test_every_most_of_every_row(self):
        for line, word in EVERY_ROW + EVERY_KIND:
            for most in range(65):
                right = [len(line)] + bytes_of(line) if most >= len(line) else [-2]
                self.assertEqual(decode(word, most), right, (line, most))

    def test_one_below_at_and_one_above_the_length(self):
        for name in ROWS:
            for operands in edge_operands(name):
                line = line_of(name, *operands)
                word = word_by_bits(name, *operands)
                right = [len(line)] + bytes_of(line)
                self.assertEqual(decode(word, len(line) - 1), [-2], line)
                self.assertEqual(decode(word, len(line)), right, line)
                self.assertEqual(decode(word, len(line) + 1), right, line)

    def test_the_shortest_and_the_longest_line(self):
        shortest = word_by_bits("jal")
        self.assertEqual(decode(shortest, 8), [-2])
        self.assertEqual(decode(shortest, 9), [9] + bytes_of("jal x0, 0"))
        longest = word_by_bits("sltiu", 31, 31, 0, -2048)
        self.assertEqual(decode(longest, 20), [-2])
        self.assertEqual(decode(longest, 21), [21] + bytes_of("sltiu x31, x31, -2048"))


class RoundTrip(Case):
    def agrees(self, word):
        answer = decode(word, 64)
        self.assertEqual(answer[0], len(answer) - 1, hex(word))
        self.assertEqual(encode(answer[1:]), [0, word], hex(word))

    def test_encode_gives_the_word_again(self):
        for line, word in EVERY_ROW + EVERY_KIND:
            self.agrees(word)
        for name in ROWS:
            for operands in edge_operands(name):
                self.agrees(word_by_bits(name, *operands))
        for word in some_instructions(4500):
            self.agrees(word)

    def test_every_line_of_encode_has_its_canonical_line(self):
        for line, canonical in (
            ("\tadd\t x1 ,x2,\tx3 ", "add x1, x2, x3"),
            ("addi x1,x2,-0000000015", "addi x1, x2, -15"),
            ("addi x1, x2, -0", "addi x1, x2, 0"),
            ("lw x13 , 0x7fA ( x2 )", "lw x13, 2042(x2)"),
            ("sh x0,-2048(x17)", "sh x0, -2048(x17)"),
            ("srai  x30,x9,0x1F", "srai x30, x9, 31"),
            ("bgeu x8,x29,-014", "bgeu x8, x29, -14"),
            ("lui x5,0xFFFFF", "lui x5, 1048575"),
            ("jal x1,0x00000ffe", "jal x1, 4094"),
        ):
            self.gives(encode(bytes_of(line))[1], canonical)


class NothingKept(Case):
    CALLS = ((0x003100B3, 64), (0x003100B3, 13), (0x003100B3, 65), (0, 64), (0xFFF10093, 15), (0xFFC12083, 14),
             (0x8000006F, 64), (0xFFFFFFFF, -1), (0x123452B7, 0), (0x003100B3, 14))

    def test_a_second_call_answers_as_the_first(self):
        self.assertEqual(answers_again_and_again(self, decode, self.CALLS), [expected(*call) for call in self.CALLS])


if __name__ == "__main__":
    unittest.main()
