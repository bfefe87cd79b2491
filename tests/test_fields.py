"""Promise 3, fields."""
import unittest

from oneinstruction.words import fields
from reference import (
    FORMS, LEAST_AND_GREATEST, ROWS, answers_again_and_again, edge_operands, one_bit_away, read_by_bits,
    some_instructions, some_words, word_by_bits, words_of_every_opening,
)

NAMES = list(ROWS)

# The words stand in the list of lines with another assembler's words too; here is what lies in them.
EVERY_ROW = (
    (0x123452B7, [0, 5, 0, 0, 74565]),
    (0xABCDE317, [1, 6, 0, 0, 703710]),
    (0x2ABAA3EF, [2, 7, 0, 0, 699050]),
    (0xEEF48467, [3, 8, 9, 0, -273]),
    (0x54B50B63, [4, 0, 10, 11, 1366]),
    (0xAAD615E3, [5, 0, 12, 13, -1366]),
    (0x2AF745E3, [6, 0, 14, 15, 2730]),
    (0xD5185A63, [7, 0, 16, 17, -2732]),
    (0x6B3965E3, [8, 0, 18, 19, 3754]),
    (0xF95A7FE3, [9, 0, 20, 21, -98]),
    (0x555B8B03, [10, 22, 23, 0, 1365]),
    (0xAAAC9C03, [11, 24, 25, 0, -1366]),
    (0x2AADAD03, [12, 26, 27, 0, 682]),
    (0xD55ECE03, [13, 28, 29, 0, -683]),
    (0x155FDF03, [14, 30, 31, 0, 341]),
    (0xEA110523, [15, 0, 2, 1, -342]),
    (0x54321AA3, [16, 0, 4, 3, 1365]),
    (0xAA532523, [17, 0, 6, 5, -1366]),
    (0x55540393, [18, 7, 8, 0, 1365]),
    (0xAAA52493, [19, 9, 10, 0, -1366]),
    (0x2AA63593, [20, 11, 12, 0, 682]),
    (0xD5574693, [21, 13, 14, 0, -683]),
    (0x15586793, [22, 15, 16, 0, 341]),
    (0xEAA97893, [23, 17, 18, 0, -342]),
    (0x015A1993, [24, 19, 20, 0, 21]),
    (0x00AB5A93, [25, 21, 22, 0, 10]),
    (0x40DC5B93, [26, 23, 24, 0, 13]),
    (0x01BD0CB3, [27, 25, 26, 27, 0]),
    (0x41EE8E33, [28, 28, 29, 30, 0]),
    (0x004110B3, [29, 1, 2, 4, 0]),
    (0x01F82433, [30, 8, 16, 31, 0]),
    (0x0092B1B3, [31, 3, 5, 9, 0]),
    (0x00A348B3, [32, 17, 6, 10, 0]),
    (0x01465933, [33, 18, 12, 20, 0]),
    (0x40B3DC33, [34, 24, 7, 11, 0]),
    (0x00E9E6B3, [35, 13, 19, 14, 0]),
    (0x016CFAB3, [36, 21, 25, 22, 0]),
    (0x02FE0D33, [37, 26, 28, 15, 0]),
    (0x03DD9BB3, [38, 23, 27, 29, 0]),
    (0x0220AF33, [39, 30, 1, 2, 0]),
    (0x03043233, [40, 4, 8, 16, 0]),
    (0x0251CFB3, [41, 31, 3, 5, 0]),
    (0x0268D4B3, [42, 9, 17, 6, 0]),
    (0x02C96533, [43, 10, 18, 12, 0]),
    (0x027C7A33, [44, 20, 24, 7, 0]),
)

EVERY_KIND = (
    (0x00000033, [27, 0, 0, 0, 0]),          # R: add x0, x0, x0
    (0x41FF8FB3, [28, 31, 31, 31, 0]),       # R: sub x31, x31, x31
    (0x03E02FB3, [39, 31, 0, 30, 0]),        # R: mulhsu x31, x0, x30
    (0x00000013, [18, 0, 0, 0, 0]),          # I: addi x0, x0, 0
    (0xFFF10093, [18, 1, 2, 0, -1]),         # I: addi x1, x2, -1
    (0x800F8F93, [18, 31, 31, 0, -2048]),    # I: addi x31, x31, -2048
    (0x7FF07F93, [23, 31, 0, 0, 2047]),      # I: andi x31, x0, 2047
    (0x00008067, [3, 0, 1, 0, 0]),           # M: jalr x0, 0(x1)
    (0x7FFFAF83, [12, 31, 31, 0, 2047]),     # M: lw x31, 2047(x31)
    (0x80004003, [13, 0, 0, 0, -2048]),      # M: lbu x0, -2048(x0)
    (0xFFF41203, [11, 4, 8, 0, -1]),         # M: lh x4, -1(x8)
    (0x00001013, [24, 0, 0, 0, 0]),          # H: slli x0, x0, 0
    (0x01FF9F93, [24, 31, 31, 0, 31]),       # H: slli x31, x31, 31
    (0x00115093, [25, 1, 2, 0, 1]),          # H: srli x1, x2, 1
    (0x41F05F93, [26, 31, 0, 0, 31]),        # H: srai x31, x0, 31
    (0x00000023, [15, 0, 0, 0, 0]),          # S: sb x0, 0(x0)
    (0x7FFFAFA3, [17, 0, 31, 31, 2047]),     # S: sw x31, 2047(x31)
    (0x800F9023, [16, 0, 31, 0, -2048]),     # S: sh x0, -2048(x31)
    (0xFFF02FA3, [17, 0, 0, 31, -1]),        # S: sw x31, -1(x0)
    (0x00328FA3, [15, 0, 5, 3, 31]),         # S: sb x3, 31(x5)
    (0x02328023, [15, 0, 5, 3, 32]),         # S: sb x3, 32(x5)
    (0x00000063, [4, 0, 0, 0, 0]),           # B: beq x0, x0, 0
    (0x7FFFFFE3, [9, 0, 31, 31, 4094]),      # B: bgeu x31, x31, 4094
    (0x81F01063, [5, 0, 0, 31, -4096]),      # B: bne x0, x31, -4096
    (0xFE0FCFE3, [6, 0, 31, 0, -2]),         # B: blt x31, x0, -2
    (0x0020D0E3, [7, 0, 1, 2, 2048]),        # B: bge x1, x2, 2048
    (0x00000037, [0, 0, 0, 0, 0]),           # U: lui x0, 0
    (0xFFFFFFB7, [0, 31, 0, 0, 1048575]),    # U: lui x31, 1048575
    (0x80000F97, [1, 31, 0, 0, 524288]),     # U: auipc x31, 524288
    (0x00001097, [1, 1, 0, 0, 1]),           # U: auipc x1, 1
    (0x0000006F, [2, 0, 0, 0, 0]),           # J: jal x0, 0
    (0x7FFFFFEF, [2, 31, 0, 0, 1048574]),    # J: jal x31, 1048574
    (0x800000EF, [2, 1, 0, 0, -1048576]),    # J: jal x1, -1048576
    (0xFFFFF2EF, [2, 5, 0, 0, -2]),          # J: jal x5, -2
    (0x001004EF, [2, 9, 0, 0, 2048]),        # J: jal x9, 2048
)

# For each bit of n, from the lowest on, the word's bit that it lies in; None where n has no such bit.
BITS_OF_N = {
    "I": (20, 21, 22, 23, 24, 25, 26, 27, 28, 29, 30, 31),
    "M": (20, 21, 22, 23, 24, 25, 26, 27, 28, 29, 30, 31),
    "H": (20, 21, 22, 23, 24),
    "S": (7, 8, 9, 10, 11, 25, 26, 27, 28, 29, 30, 31),
    "B": (None, 8, 9, 10, 11, 25, 26, 27, 28, 29, 30, 7, 31),
    "U": (12, 13, 14, 15, 16, 17, 18, 19, 20, 21, 22, 23, 24, 25, 26, 27, 28, 29, 30, 31),
    "J": (None, 21, 22, 23, 24, 25, 26, 27, 28, 29, 30, 20, 12, 13, 14, 15, 16, 17, 18, 19, 31),
}
WITHOUT_SIGN = "HU"


def expected(word):
    found = read_by_bits(word)
    return [-1] if found is None else [NAMES.index(found[0])] + list(found[1:])


class Case(unittest.TestCase):
    def gives(self, word, right):
        self.assertEqual(fields(word), right, hex(word))


class Instructions(Case):
    def test_a_word_of_every_row(self):
        self.assertEqual([right[0] for word, right in EVERY_ROW], list(range(45)))
        for word, right in EVERY_ROW:
            self.gives(word, right)

    def test_several_words_of_every_kind(self):
        self.assertEqual({ROWS[NAMES[right[0]]][0] for word, right in EVERY_KIND}, set(FORMS))
        for word, right in EVERY_KIND:
            self.gives(word, right)

    def test_the_tests_own_reading_agrees(self):
        for word, right in EVERY_ROW + EVERY_KIND:
            self.assertEqual(expected(word), right, hex(word))

    def test_edges_of_every_row(self):
        for row, name in enumerate(NAMES):
            for operands in edge_operands(name):
                self.gives(word_by_bits(name, *operands), [row] + list(operands))

    def test_every_place_in_every_operand(self):
        for row, name in enumerate(NAMES):
            kind = ROWS[name][0]
            for place in range(32):
                if kind in "RIMHUJ":
                    self.gives(word_by_bits(name, d=place), [row, place, 0, 0, 0])
                if kind in "RIMHSB":
                    self.gives(word_by_bits(name, a=place), [row, 0, place, 0, 0])
                if kind in "RSB":
                    self.gives(word_by_bits(name, b=place), [row, 0, 0, place, 0])

    def test_every_number_of_the_narrow_kinds(self):
        for name in ("xori", "jalr", "sw", "srai", "bge"):
            least, greatest, multiple = LEAST_AND_GREATEST[ROWS[name][0]]
            for n in range(least, greatest + 1, multiple):
                self.assertEqual(fields(word_by_bits(name, 11, 22, 13, n))[4], n, name)

    def test_words_of_all_sorts(self):
        for word in some_words(4000) + some_instructions(9000):
            self.gives(word, expected(word))

    def test_the_answer_is_five_whole_numbers(self):
        for word, right in EVERY_ROW + EVERY_KIND + ((0, [-1]),):
            answer = fields(word)
            self.assertIs(type(answer), list)
            for number in answer:
                self.assertIs(type(number), int)


class BitsOfN(Case):
    def test_each_by_itself_in_every_row(self):
        for row, name in enumerate(NAMES):
            kind = ROWS[name][0]
            for place, bit in enumerate(BITS_OF_N.get(kind, ())):
                if bit is not None:
                    last = place == len(BITS_OF_N[kind]) - 1 and kind not in WITHOUT_SIGN
                    n = -(1 << place) if last else 1 << place
                    self.gives(word_by_bits(name) | 1 << bit, [row, 0, 0, 0, n])

    def test_all_but_one_in_every_row(self):
        for row, name in enumerate(NAMES):
            kind = ROWS[name][0]
            bits = [(place, bit) for place, bit in enumerate(BITS_OF_N.get(kind, ())) if bit is not None]
            for left_out in bits:
                word = word_by_bits(name)
                n = 0
                for place, bit in bits:
                    if (place, bit) != left_out:
                        word |= 1 << bit
                        n += 1 << place
                if kind not in WITHOUT_SIGN and left_out != bits[-1]:
                    n -= 2 << bits[-1][0]
                self.gives(word, [row, 0, 0, 0, n])


class PlacesThatTheKindHasNot(Case):
    """The same bits of the word belong to n or to g there, so a 0 must stand all the same."""

    def test_d_of_stores_and_branches(self):
        self.gives(0x00000FA3, [15, 0, 0, 0, 31])      # sb x0, 31(x0)
        self.gives(0x000000A3, [15, 0, 0, 0, 1])       # sb x0, 1(x0)
        self.gives(0x00000F63, [4, 0, 0, 0, 30])       # beq x0, x0, 30
        self.gives(0x000000E3, [4, 0, 0, 0, 2048])     # beq x0, x0, 2048

    def test_a_of_the_wide_kinds(self):
        self.gives(0x000F8037, [0, 0, 0, 0, 248])      # lui x0, 248
        self.gives(0x000F8017, [1, 0, 0, 0, 248])      # auipc x0, 248
        self.gives(0x000F806F, [2, 0, 0, 0, 1015808])  # jal x0, 1015808

    def test_b_of_the_kinds_that_have_n_there(self):
        self.gives(0x01F00037, [0, 0, 0, 0, 7936])     # lui x0, 7936
        self.gives(0x01F0006F, [2, 0, 0, 0, 2078])     # jal x0, 2078
        self.gives(0x01F00067, [3, 0, 0, 0, 31])       # jalr x0, 31(x0)
        self.gives(0x01F00003, [10, 0, 0, 0, 31])      # lb x0, 31(x0)
        self.gives(0x01F00013, [18, 0, 0, 0, 31])      # addi x0, x0, 31
        self.gives(0x01F01013, [24, 0, 0, 0, 31])      # slli x0, x0, 31
        self.gives(0x41F05013, [26, 0, 0, 0, 31])      # srai x0, x0, 31

    def test_n_of_the_rows_with_three_places(self):
        self.gives(0x41FF8FB3, [28, 31, 31, 31, 0])
        self.gives(0x03FFFFB3, [44, 31, 31, 31, 0])

    def test_every_row_with_every_free_bit(self):
        free = {"R": 0x01FF8F80, "H": 0x01FF8F80, "U": 0xFFFFFF80, "J": 0xFFFFFF80}
        right = {"R": [31, 31, 31, 0], "I": [31, 31, 0, -1], "M": [31, 31, 0, -1], "H": [31, 31, 0, 31],
                 "S": [0, 31, 31, -1], "B": [0, 31, 31, -2], "U": [31, 0, 0, 1048575], "J": [31, 0, 0, -2]}
        for row, name in enumerate(NAMES):
            kind = ROWS[name][0]
            self.gives(word_by_bits(name) | free.get(kind, 0xFFFF8F80), [row] + right[kind])


class OtherWords(Case):
    def test_no_instruction(self):
        for word in (0, 4294967295, 1, 0x7FFFFFFF, 0x80000000, 0x00000073, 0x00100073, 0x0FF0000F, 0x30001073,
                     0x00001067, 0x00007067, 0x00002063, 0x00003063, 0x00003003, 0x00006003, 0x00007003, 0x00003023,
                     0x00004023, 0x00007023, 0x02001013, 0x40001013, 0x80001013, 0x02005013, 0x42005013, 0x80005013,
                     0x04000033, 0x40001033, 0x40002033, 0x40003033, 0x40004033, 0x40006033, 0x40007033, 0x42000033,
                     0x80000033, 0xFE000033, 0x0000001B, 0x0000003B, 0x00000043, 0x0000002F):
            self.gives(word, [-1])

    def test_one_bit_away_from_an_instruction(self):
        for name in NAMES:
            for operands in ((0, 0, 0, 0), (31, 31, 31, 0), (9, 22, 5, 0)):
                for word in one_bit_away(word_by_bits(name, *operands)):
                    self.gives(word, expected(word))

    def test_one_bit_of_op_away(self):
        ops = {op for kind, op, f, g in ROWS.values()}
        for name in NAMES:
            for place in range(7):
                if ROWS[name][1] ^ 1 << place not in ops:
                    self.gives(word_by_bits(name, 1, 2, 3, 0) ^ 1 << place, [-1])

    def test_one_bit_of_g_away(self):
        others = {"add": (5, "sub"), "sub": (5, "add"), "srl": (5, "sra"), "sra": (5, "srl"), "srli": (5, "srai"),
                  "srai": (5, "srli")}
        pairs = ("add mul", "sll mulh", "slt mulhsu", "sltu mulhu", "xor div", "srl divu", "or rem", "and remu")
        for name in NAMES:
            if ROWS[name][0] in "RH":
                met = dict([others[name]] if name in others else [])
                for first, second in [pair.split() for pair in pairs]:
                    if name in (first, second):
                        met[0] = second if name == first else first
                for place in range(7):
                    word = word_by_bits(name, 1, 2, 3, 3) ^ 1 << 25 + place
                    rest = [1, 2, 3, 0] if ROWS[name][0] == "R" else [1, 2, 0, 3]
                    self.gives(word, [NAMES.index(met[place])] + rest if place in met else [-1])

    def test_every_op_f_and_g(self):
        # 3 rows of op alone, 21 of op and f, 21 of op, f and g.
        taken = [word for word in words_of_every_opening() if fields(word) != [-1]]
        self.assertEqual(len(taken), 3 * 8 * 128 + 21 * 128 + 21)
        for word in taken:
            self.gives(word, expected(word))


class NothingKept(Case):
    WORDS = (0x003100B3, 0, 0xFFF10093, 0xFFC12083, 0x8000006F, 0xFFFFFFFF, 0x123452B7, 0x003100B3, 0x00328FA3)

    def test_a_second_call_answers_as_the_first(self):
        self.assertEqual(answers_again_and_again(self, fields, [(word,) for word in self.WORDS]),
                         [expected(word) for word in self.WORDS])


if __name__ == "__main__":
    unittest.main()
