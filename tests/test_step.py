"""Promise 4, step."""
import math
import unittest
from fractions import Fraction

from oneinstruction.words import encode, step
from reference import (
    ROWS, Watched, answers_again_and_again, bytes_of, edge_operands, one_bit_away, read_by_bits, some_instructions,
    some_words, word_by_bits, words_of_every_opening,
)

TOP = 0xFFFFFFFF
LEAST = 0x80000000
MEMORY = ("lb", "lh", "lw", "lbu", "lhu", "sb", "sh", "sw")
BRANCHES = ("beq", "bne", "blt", "bge", "bltu", "bgeu")
EDGES = (0, 1, 2, 31, 32, 33, 0x7FFFFFFF, 0x80000000, 0x80000001, 0xFFFFFFFE, 0xFFFFFFFF)

# What these rows make of the values and numbers, in hexadecimal digits, is another machine's: qemu-riscv32 7.2.22.
PAIRS = (
    (7, 3), (0xFFFFFFF9, 3), (7, 0xFFFFFFFD), (0xFFFFFFF9, 0xFFFFFFFD),
    (0x80000000, 0xFFFFFFFF), (0xFFFFFFFF, 0x80000000), (0x80000000, 0x80000000), (0x7FFFFFFF, 0x7FFFFFFF),
    (0x7FFFFFFF, 0x80000000), (0x80000000, 0x7FFFFFFF), (0xFFFFFFFF, 0xFFFFFFFF), (0x80000000, 0),
    (0xFFFFFFFF, 0), (5, 0), (0, 0), (0, 0xFFFFFFFF),
    (0x89ABCDEF, 0x12345664), (0x12345664, 0x89ABCDEF), (0x89ABCDEF, 31), (0x89ABCDEF, 32),
)
RESULTS_OF_PAIRS = {
    "add": "A FFFFFFFC 4 FFFFFFF6 7FFFFFFF 7FFFFFFF 0 FFFFFFFE FFFFFFFF FFFFFFFF "
           "FFFFFFFE 80000000 FFFFFFFF 5 0 FFFFFFFF 9BE02453 9BE02453 89ABCE0E 89ABCE0F",
    "sub": "4 FFFFFFF6 A FFFFFFFC 80000001 7FFFFFFF 0 0 FFFFFFFF 1 "
           "0 80000000 FFFFFFFF 5 0 1 7777778B 88888875 89ABCDD0 89ABCDCF",
    "sll": "38 FFFFFFC8 E0000000 20000000 0 FFFFFFFF 80000000 80000000 7FFFFFFF 0 "
           "80000000 80000000 FFFFFFFF 5 0 0 9ABCDEF0 2B320000 80000000 89ABCDEF",
    "slt": "0 1 0 1 1 0 0 0 0 1 0 1 1 0 0 0 1 0 1 1",
    "sltu": "0 0 1 1 1 0 0 0 1 0 0 0 0 0 0 1 0 1 0 0",
    "xor": "4 FFFFFFFA FFFFFFFA 4 7FFFFFFF 7FFFFFFF 0 0 FFFFFFFF FFFFFFFF "
           "0 80000000 FFFFFFFF 5 0 FFFFFFFF 9B9F9B8B 9B9F9B8B 89ABCDF0 89ABCDCF",
    "srl": "0 1FFFFFFF 0 7 1 FFFFFFFF 80000000 0 7FFFFFFF 1 "
           "1 80000000 FFFFFFFF 5 0 0 89ABCDE 2468 1 89ABCDEF",
    "sra": "0 FFFFFFFF 0 FFFFFFFF FFFFFFFF FFFFFFFF 80000000 0 7FFFFFFF FFFFFFFF "
           "FFFFFFFF 80000000 FFFFFFFF 5 0 0 F89ABCDE 2468 FFFFFFFF 89ABCDEF",
    "or": "7 FFFFFFFB FFFFFFFF FFFFFFFD FFFFFFFF FFFFFFFF 80000000 7FFFFFFF FFFFFFFF FFFFFFFF "
          "FFFFFFFF 80000000 FFFFFFFF 5 0 FFFFFFFF 9BBFDFEF 9BBFDFEF 89ABCDFF 89ABCDEF",
    "and": "3 1 5 FFFFFFF9 80000000 80000000 80000000 7FFFFFFF 0 0 FFFFFFFF 0 0 0 0 0 204464 204464 F 20",
    "mul": "15 FFFFFFEB FFFFFFEB 15 80000000 80000000 0 1 80000000 80000000 "
           "1 0 0 0 0 0 20D6BB5C 20D6BB5C ABCDEFF1 3579BDE0",
    "mulh": "0 FFFFFFFF FFFFFFFF 0 0 0 40000000 3FFFFFFF C0000000 C0000000 "
            "0 0 0 0 0 0 F795E372 F795E372 FFFFFFF1 FFFFFFF1",
    "mulhsu": "0 FFFFFFFF 6 FFFFFFF9 80000000 FFFFFFFF C0000000 3FFFFFFF 3FFFFFFF C0000000 "
              "FFFFFFFF 0 0 0 0 0 F795E372 9CA39D6 FFFFFFF1 FFFFFFF1",
    "mulhu": "0 2 6 FFFFFFF6 7FFFFFFF 7FFFFFFF 40000000 3FFFFFFF 3FFFFFFF 3FFFFFFF "
             "FFFFFFFE 0 0 0 0 0 9CA39D6 9CA39D6 10 11",
    "div": "2 FFFFFFFE FFFFFFFE 2 80000000 0 1 1 0 FFFFFFFF "
           "1 FFFFFFFF FFFFFFFF FFFFFFFF FFFFFFFF 0 FFFFFFFA 0 FC2ED519 FC4D5E70",
    "divu": "2 55555553 0 0 0 1 1 1 0 1 1 FFFFFFFF FFFFFFFF FFFFFFFF FFFFFFFF 0 7 0 470E59C 44D5E6F",
    "rem": "1 FFFFFFFF 1 FFFFFFFF 0 FFFFFFFF 0 0 7FFFFFFF FFFFFFFF "
           "0 80000000 FFFFFFFF 5 0 0 F6E5D447 12345664 FFFFFFE8 FFFFFFEF",
    "remu": "1 0 7 FFFFFFF9 80000000 7FFFFFFF 0 0 7FFFFFFF 1 0 80000000 FFFFFFFF 5 0 0 A3D7133 12345664 B F",
}

NUMBERS = (
    (5, 3), (5, -3), (0, 0), (0, -1),
    (0xFFFFFFFF, 1), (0xFFFFFFFF, -1), (0x7FFFFFFF, 2047), (0x80000000, -2048),
    (0x89ABCDEF, 1365), (0xFFFFF800, -2048), (0xFFFFF7FF, -2048), (2047, 2047),
)
RESULTS_OF_NUMBERS = {
    "addi": "8 2 0 FFFFFFFF 0 FFFFFFFE 800007FE 7FFFF800 89ABD344 FFFFF000 FFFFEFFF FFE",
    "slti": "0 0 0 0 1 0 0 1 1 0 1 0",
    "sltiu": "0 1 0 1 0 0 0 1 0 0 1 0",
    "xori": "6 FFFFFFF8 0 FFFFFFFF FFFFFFFE 0 7FFFF800 7FFFF800 89ABC8BA 0 FFF 0",
    "ori": "7 FFFFFFFD 0 FFFFFFFF FFFFFFFF FFFFFFFF 7FFFFFFF FFFFF800 89ABCDFF FFFFF800 FFFFFFFF 7FF",
    "andi": "1 5 0 0 1 FFFFFFFF 7FF 80000000 545 FFFFF800 FFFFF000 7FF",
}

SHIFTS = (
    (0x89ABCDEF, 0), (0x89ABCDEF, 1), (0x89ABCDEF, 4), (0x89ABCDEF, 31),
    (0x72345678, 0), (0x72345678, 31), (0x72345678, 30), (0, 31),
    (0xFFFFFFFF, 31), (0x80000000, 1), (1, 31), (0xFFFFFFFF, 16),
)
RESULTS_OF_SHIFTS = {
    "slli": "89ABCDEF 13579BDE 9ABCDEF0 80000000 72345678 0 0 0 80000000 0 80000000 FFFF0000",
    "srli": "89ABCDEF 44D5E6F7 89ABCDE 1 72345678 0 1 0 1 40000000 0 FFFF",
    "srai": "89ABCDEF C4D5E6F7 F89ABCDE FFFFFFFF 72345678 0 1 0 FFFFFFFF C0000000 0 FFFFFFFF",
}

# A line of every row; what a and b hold; pc; what d holds behind it (None where there is no d) and the next pc.
EVERY_ROW = (
    ("lui x5, 74565", 0, 0, 400, 0x12345000, 404),
    ("auipc x6, 703710", 0, 0, 400, 0xABCDE190, 404),
    ("jal x7, 699050", 0, 0, 400, 404, 699450),
    ("jalr x8, -272(x9)", 5000, 0, 400, 404, 4728),
    ("beq x10, x11, 1366", 9, 9, 400, None, 1766),
    ("bne x12, x13, -136", 9, 8, 400, None, 264),
    ("blt x14, x15, 2730", TOP, 1, 400, None, 3130),
    ("bge x16, x17, -272", 1, TOP, 400, None, 128),
    ("bltu x18, x19, 3754", 1, TOP, 400, None, 4154),
    ("bgeu x20, x21, -98", TOP, 1, 400, None, 302),
    ("addi x7, x8, 1365", 1000, 0, 400, 2365, 404),
    ("slti x9, x10, -1366", 0xFFFFFAA9, 0, 400, 1, 404),
    ("sltiu x11, x12, 682", 681, 0, 400, 1, 404),
    ("xori x13, x14, -683", 0xFF, 0, 400, 0xFFFFFDAA, 404),
    ("ori x15, x16, 341", 0x0F0, 0, 400, 0x1F5, 404),
    ("andi x17, x18, -342", 0xFFF, 0, 400, 0xEAA, 404),
    ("slli x19, x20, 21", 0x801, 0, 400, 0x00200000, 404),
    ("srli x21, x22, 10", 0x80000400, 0, 400, 0x00200001, 404),
    ("srai x23, x24, 13", 0x80002000, 0, 400, 0xFFFC0001, 404),
    ("add x25, x26, x27", 0xFFFFFFF0, 0x20, 400, 0x10, 404),
    ("sub x28, x29, x30", 0x10, 0x20, 400, 0xFFFFFFF0, 404),
    ("sll x1, x2, x4", 3, 31, 400, 0x80000000, 404),
    ("slt x8, x16, x31", TOP, 0, 400, 1, 404),
    ("sltu x3, x5, x9", 0, TOP, 400, 1, 404),
    ("xor x17, x6, x10", 0xFF00, 0x0FF0, 400, 0xF0F0, 404),
    ("srl x18, x12, x20", TOP, 28, 400, 15, 404),
    ("sra x24, x7, x11", LEAST, 28, 400, 0xFFFFFFF8, 404),
    ("or x13, x19, x14", 0xFF00, 0x0FF0, 400, 0xFFF0, 404),
    ("and x21, x25, x22", 0xFF00, 0x0FF0, 400, 0x0F00, 404),
    ("mul x26, x28, x15", 100000, 100000, 400, 1410065408, 404),
    ("mulh x23, x27, x29", TOP, 2, 400, TOP, 404),
    ("mulhsu x30, x1, x2", TOP, TOP, 400, TOP, 404),
    ("mulhu x4, x8, x16", TOP, 2, 400, 1, 404),
    ("div x31, x3, x5", 0xFFFFFFF9, 2, 400, 0xFFFFFFFD, 404),
    ("divu x9, x17, x6", 0xFFFFFFF9, 2, 400, 0x7FFFFFFC, 404),
    ("rem x10, x18, x12", 0xFFFFFFF9, 2, 400, TOP, 404),
    ("remu x20, x24, x7", 0xFFFFFFF9, 2, 400, 1, 404),
)


def word_of(line):
    answer = encode(bytes_of(line))
    assert answer[0] == 0, line
    return answer[1]


def registers_with(values):
    """Registers that all differ, none of them 0 or small, x0's neither; then the values, by their places."""
    registers = [0xC0DE0000 + 0x101 * place for place in range(32)]
    for place, value in values.items():
        registers[place] = value
    return registers


def with_sign(value):
    return int.from_bytes(value.to_bytes(4, "big"), "big", signed=True)


def divided(a, b):
    """Quotient and remainder as the document has them, of numbers with or without a sign."""
    if b == 0:
        return TOP, a
    quotient = math.trunc(Fraction(a, b))
    return quotient, a - b * quotient


def result(name, a, b):
    """By the document, what the rows with three places put in d."""
    x, y = with_sign(a), with_sign(b)
    return {
        "add": lambda: a + b,
        "sub": lambda: a - b,
        "sll": lambda: a * 2 ** (b & 31),
        "slt": lambda: int(x < y),
        "sltu": lambda: int(a < b),
        "xor": lambda: a ^ b,
        "srl": lambda: a // 2 ** (b & 31),
        "sra": lambda: math.floor(Fraction(x, 2 ** (b & 31))),
        "or": lambda: a | b,
        "and": lambda: a & b,
        "mul": lambda: x * y,
        "mulh": lambda: x * y // 2**32,
        "mulhsu": lambda: x * b // 2**32,
        "mulhu": lambda: a * b // 2**32,
        "div": lambda: divided(x, y)[0],
        "divu": lambda: divided(a, b)[0],
        "rem": lambda: divided(x, y)[1],
        "remu": lambda: divided(a, b)[1],
    }[name]() % 2**32


def met(name, a, b):
    x, y = with_sign(a), with_sign(b)
    return {"beq": a == b, "bne": a != b, "blt": x < y, "bge": x >= y, "bltu": a < b, "bgeu": a >= b}[name]


WITHOUT_NUMBER = {"addi": "add", "slti": "slt", "sltiu": "sltu", "xori": "xor", "ori": "or", "andi": "and",
                  "slli": "sll", "srli": "srl", "srai": "sra"}


def expected(pc, word, registers):
    """The document's answer by the tests' own reading of the word."""
    found = read_by_bits(word)
    if found is None:
        return [-1]
    name, d, a, b, n = found
    if name in MEMORY:
        return [-2]
    a = registers[a] if a else 0
    b = registers[b] if b else 0
    behind = (pc + 4) % 2**32
    value = None
    if name == "lui":
        value = n * 4096
    elif name == "auipc":
        value = (pc + n * 4096) % 2**32
    elif name == "jal":
        value, behind = behind, (pc + n) % 2**32
    elif name == "jalr":
        value, behind = behind, (a + n) % 2**32 & 0xFFFFFFFE
    elif name in BRANCHES:
        behind = (pc + n) % 2**32 if met(name, a, b) else behind
    else:
        value = result(WITHOUT_NUMBER[name], a, n % 2**32) if name in WITHOUT_NUMBER else result(name, a, b)
    after = [value if place == d and d and value is not None else held for place, held in enumerate(registers)]
    return [0] + after + [behind]


class Case(unittest.TestCase):
    def gives(self, line, values, changed, pc=400, behind=404):
        """The line's word, the values in registers: those in changed are written, the others stay as they are."""
        registers = registers_with(values)
        after = registers_with({**values, **changed})
        self.assertEqual(step(pc, word_of(line), registers), [0] + after + [behind], (line, values, pc))
        self.assertEqual(registers, registers_with(values), line)

    def agrees(self, pc, word, registers):
        self.assertEqual(step(pc, word, registers), expected(pc, word, registers), (hex(pc), hex(word), registers))


class EveryRow(Case):
    def test_a_line_of_every_row(self):
        names = [case[0].split()[0] for case in EVERY_ROW]
        self.assertEqual(names, [name for name in ROWS if name not in MEMORY])
        for line, a, b, pc, value, behind in EVERY_ROW:
            name, d, at_a, at_b, n = read_by_bits(word_of(line))
            values = {}
            if ROWS[name][0] in "RIMHB":
                values[at_a] = a
            if ROWS[name][0] in "RB":
                values[at_b] = b
            self.gives(line, values, {} if value is None else {d: value}, pc, behind)

    def test_three_places(self):
        self.assertEqual(list(RESULTS_OF_PAIRS), [name for name in ROWS if ROWS[name][0] == "R"])
        for name, digits in RESULTS_OF_PAIRS.items():
            for (a, b), value in zip(PAIRS, digits.split(), strict=True):
                self.gives(f"{name} x7, x5, x6", {5: a, 6: b}, {7: int(value, 16)})

    def test_a_place_and_a_number(self):
        self.assertEqual(list(RESULTS_OF_NUMBERS), [name for name in ROWS if ROWS[name][0] == "I"])
        for name, digits in RESULTS_OF_NUMBERS.items():
            for (a, n), value in zip(NUMBERS, digits.split(), strict=True):
                self.gives(f"{name} x7, x5, {n}", {5: a}, {7: int(value, 16)})

    def test_shifts_by_a_number(self):
        self.assertEqual(list(RESULTS_OF_SHIFTS), [name for name in ROWS if ROWS[name][0] == "H"])
        for name, digits in RESULTS_OF_SHIFTS.items():
            for (a, n), value in zip(SHIFTS, digits.split(), strict=True):
                self.gives(f"{name} x7, x5, {n}", {5: a}, {7: int(value, 16)})

    def test_the_tests_own_reading_agrees_with_the_other_machine(self):
        for pairs, results in ((PAIRS, RESULTS_OF_PAIRS), (NUMBERS, RESULTS_OF_NUMBERS), (SHIFTS, RESULTS_OF_SHIFTS)):
            for name, digits in results.items():
                for (a, b), value in zip(pairs, digits.split(), strict=True):
                    own = result(WITHOUT_NUMBER.get(name, name), a, b % 2**32)
                    self.assertEqual(own, int(value, 16), (name, a, b))

    def test_the_answer_is_whole_numbers(self):
        for line, *rest in EVERY_ROW:
            answer = step(400, word_of(line), registers_with({}))
            self.assertIs(type(answer), list)
            self.assertEqual(len(answer), 34)
            for number in answer:
                self.assertIs(type(number), int)
                self.assertTrue(0 <= number <= TOP)

    def test_edges_of_values_and_operands(self):
        for name in ROWS:
            for operands in edge_operands(name):
                word = word_by_bits(name, *operands)
                for k in range(len(EDGES)):
                    registers = [EDGES[(k + place * 7) % len(EDGES)] for place in range(32)]
                    self.agrees(EDGES[-1 - k] & ~3, word, registers)

    def test_every_pair_of_edges(self):
        for name in ROWS:
            if ROWS[name][0] in "RB":
                for a in EDGES:
                    for b in EDGES:
                        self.agrees(0x1000, word_by_bits(name, 7, 5, 6, 0), registers_with({5: a, 6: b}))

    def test_instructions_of_all_sorts(self):
        values = some_words(4545 * 32)
        for turn, word in enumerate(some_instructions(4545)):
            self.agrees(values[turn * 5], word, values[turn * 32:turn * 32 + 32])


class X0(Case):
    """Something other than 0 stands in x0: it is read as 0 and stays."""

    def test_it_is_read_as_0(self):
        for stands in (1, 7, LEAST, TOP):
            for line, values, changed in (
                ("add x7, x0, x5", {5: 30}, {7: 30}),
                ("add x7, x5, x0", {5: 30}, {7: 30}),
                ("sub x7, x0, x5", {5: 30}, {7: 0xFFFFFFE2}),
                ("sub x7, x5, x0", {5: 30}, {7: 30}),
                ("or x7, x0, x0", {}, {7: 0}),
                ("sll x7, x5, x0", {5: 30}, {7: 30}),
                ("mulhu x7, x5, x0", {5: TOP}, {7: 0}),
                ("div x7, x5, x0", {5: 30}, {7: TOP}),
                ("remu x7, x5, x0", {5: 30}, {7: 30}),
                ("divu x7, x0, x5", {5: 30}, {7: 0}),
                ("addi x7, x0, -5", {}, {7: 0xFFFFFFFB}),
                ("ori x7, x0, 8", {}, {7: 8}),
                ("sltiu x7, x0, 1", {}, {7: 1}),
                ("srai x7, x0, 1", {}, {7: 0}),
            ):
                self.gives(line, {0: stands, **values}, changed)
            self.gives("jalr x7, 64(x0)", {0: stands}, {7: 404}, 400, 64)
            self.gives("jalr x7, -4(x0)", {0: stands}, {7: 404}, 400, 0xFFFFFFFC)
            self.gives("beq x0, x5, 64", {0: stands, 5: 0}, {}, 400, 464)
            self.gives("beq x5, x0, 64", {0: stands, 5: 0}, {}, 400, 464)
            self.gives("bne x0, x5, 64", {0: stands, 5: 0}, {}, 400, 404)
            self.gives("beq x0, x5, 64", {0: stands, 5: stands}, {}, 400, 404)
            self.gives("bltu x0, x5, 64", {0: stands, 5: 1}, {}, 400, 464)
            self.gives("blt x5, x0, 64", {0: stands, 5: TOP}, {}, 400, 464)
            self.gives("bge x0, x0, -64", {0: stands}, {}, 400, 336)

    def test_it_is_not_written(self):
        for stands in (0, 1, 7, LEAST, TOP):
            for line in ("lui x0, 74565", "auipc x0, 74565", "addi x0, x5, 5", "slti x0, x5, 5", "sltiu x0, x5, 5",
                         "xori x0, x5, 5", "ori x0, x5, 5", "andi x0, x5, 5", "slli x0, x5, 5", "srli x0, x5, 5",
                         "srai x0, x5, 5", "addi x0, x0, 0", "addi x0, x0, 5"):
                self.gives(line, {0: stands, 5: 0x12345678}, {})
            for name in RESULTS_OF_PAIRS:
                self.gives(f"{name} x0, x5, x6", {0: stands, 5: 0x12345678, 6: 9}, {})
                self.gives(f"{name} x0, x0, x6", {0: stands, 6: 9}, {})
                self.gives(f"{name} x0, x0, x0", {0: stands}, {})
            self.gives("jal x0, 64", {0: stands}, {}, 400, 464)
            self.gives("jalr x0, 64(x5)", {0: stands, 5: 1000}, {}, 400, 1064)
            self.gives("jalr x0, 64(x0)", {0: stands}, {}, 400, 64)


class SamePlaces(Case):
    def test_d_is_a_or_b_or_both(self):
        for name in RESULTS_OF_PAIRS:
            for (a, b), value in zip(PAIRS, RESULTS_OF_PAIRS[name].split(), strict=True):
                self.gives(f"{name} x5, x5, x6", {5: a, 6: b}, {5: int(value, 16)})
                self.gives(f"{name} x6, x5, x6", {5: a, 6: b}, {6: int(value, 16)})
                if a == b:
                    self.gives(f"{name} x7, x5, x5", {5: a}, {7: int(value, 16)})
                    self.gives(f"{name} x5, x5, x5", {5: a}, {5: int(value, 16)})

    def test_d_is_a_beside_a_number(self):
        for pairs, results in ((NUMBERS, RESULTS_OF_NUMBERS), (SHIFTS, RESULTS_OF_SHIFTS)):
            for name in results:
                for (a, n), value in zip(pairs, results[name].split(), strict=True):
                    self.gives(f"{name} x31, x31, {n}", {31: a}, {31: int(value, 16)})

    def test_jalr_reads_a_before_d_is_written(self):
        self.gives("jalr x5, 8(x5)", {5: 1000}, {5: 404}, 400, 1008)
        self.gives("jalr x5, 9(x5)", {5: 1000}, {5: 404}, 400, 1008)
        self.gives("jalr x31, -2048(x31)", {31: 0}, {31: 404}, 400, 0xFFFFF800)

    def test_branches_on_one_place(self):
        for value in (0, 1, LEAST, TOP):
            for name, taken in (("beq", 1), ("bne", 0), ("blt", 0), ("bge", 1), ("bltu", 0), ("bgeu", 1)):
                self.gives(f"{name} x5, x5, 64", {5: value}, {}, 400, 464 if taken else 404)


class Pc(Case):
    def test_it_goes_round_behind_the_last_word(self):
        for pc, behind in ((0xFFFFFFF8, 0xFFFFFFFC), (0xFFFFFFFB, 0xFFFFFFFF), (0xFFFFFFFC, 0), (0xFFFFFFFD, 1),
                           (0xFFFFFFFE, 2), (0xFFFFFFFF, 3), (0, 4), (1, 5), (0x7FFFFFFC, 0x80000000)):
            self.gives("addi x7, x5, 1", {5: 1}, {7: 2}, pc, behind)
            self.gives("lui x7, 1", {}, {7: 4096}, pc, behind)
            self.gives("bne x5, x5, 64", {}, {}, pc, behind)
            self.gives("jal x7, 0", {}, {7: behind}, pc, pc)
            self.gives("jalr x7, 0(x5)", {5: 64}, {7: behind}, pc, 64)

    def test_a_jump_or_branch_goes_round(self):
        self.gives("jal x7, 8", {}, {7: 0}, 0xFFFFFFFC, 4)
        self.gives("jal x7, -8", {}, {7: 8}, 4, 0xFFFFFFFC)
        self.gives("jal x7, 1048574", {}, {7: 0}, 0xFFFFFFFC, 1048570)
        self.gives("jal x7, -1048576", {}, {7: 4}, 0, 0xFFF00000)
        self.gives("beq x0, x0, 8", {}, {}, 0xFFFFFFFC, 4)
        self.gives("beq x0, x0, -8", {}, {}, 4, 0xFFFFFFFC)
        self.gives("beq x0, x0, 4094", {}, {}, 0xFFFFFFFF, 4093)
        self.gives("beq x0, x0, -4096", {}, {}, 0, 0xFFFFF000)
        self.gives("jalr x7, 8(x5)", {5: 0xFFFFFFFC}, {7: 404}, 400, 4)
        self.gives("jalr x7, -8(x5)", {5: 4}, {7: 404}, 400, 0xFFFFFFFC)

    def test_auipc_goes_round(self):
        self.gives("auipc x7, 0", {}, {7: 0xFFFFFFFC}, 0xFFFFFFFC, 0)
        self.gives("auipc x7, 1", {}, {7: 0x00000FFC}, 0xFFFFFFFC, 0)
        self.gives("auipc x7, 1048575", {}, {7: 0xFFFFF000}, 0, 4)
        self.gives("auipc x7, 1048575", {}, {7: 0}, 4096, 4100)
        self.gives("auipc x7, 524288", {}, {7: 0x00000004}, 0x80000004, 0x80000008)

    def test_lui_has_no_sign(self):
        self.gives("lui x7, 1048575", {}, {7: 0xFFFFF000})
        self.gives("lui x7, 524288", {}, {7: 0x80000000})
        self.gives("lui x7, 0", {}, {7: 0})

    def test_an_odd_or_uneven_pc_stays_so(self):
        self.gives("jal x7, 2", {}, {7: 405}, 401, 403)
        self.gives("beq x0, x0, -2", {}, {}, 401, 399)
        self.gives("auipc x7, 1", {}, {7: 4497}, 401, 405)

    def test_jalr_puts_the_lowest_bit_of_the_sum_to_0(self):
        for held, n, behind in ((1000, 1, 1000), (1001, 0, 1000), (1001, 1, 1002), (1003, 0, 1002), (1002, 0, 1002),
                                (TOP, 0, 0xFFFFFFFE), (TOP, 1, 0), (TOP, 2, 0), (0, -1, 0xFFFFFFFE), (0, 1, 0),
                                (1, -2, 0xFFFFFFFE), (2047, 2047, 4094), (2047, -2048, 0xFFFFFFFE)):
            self.gives(f"jalr x7, {n}(x5)", {5: held}, {7: 404}, 400, behind)
        self.gives("jalr x7, 1(x5)", {5: 1000}, {7: 405}, 401, 1000)


class Branches(Case):
    # Each name: whether it is taken for these pairs.
    PAIRS = ((0, 0), (1, 2), (2, 1), (TOP, 0), (0, TOP), (LEAST, 0x7FFFFFFF), (0x7FFFFFFF, LEAST), (TOP, TOP),
             (LEAST, TOP), (TOP, LEAST), (LEAST, 0), (0, LEAST))
    TAKEN = {
        "beq": "100000010000",
        "bne": "011111101111",
        "blt": "010101001010",
        "bge": "101010110101",
        "bltu": "010010101001",
        "bgeu": "101101010110",
    }

    def test_taken_and_not_taken(self):
        self.assertEqual(tuple(self.TAKEN), BRANCHES)
        for name, taken in self.TAKEN.items():
            for (a, b), digit in zip(self.PAIRS, taken, strict=True):
                for n in (64, -64, 4094, -4096, 0, 2, -2):
                    behind = 5000 + n if digit == "1" else 5004
                    self.gives(f"{name} x5, x6, {n}", {5: a, 6: b}, {}, 5000, behind)

    def test_what_would_be_d_is_not_written(self):
        # n lies where other kinds have d: every place there by itself.
        for n in range(-32, 32, 2):
            self.gives(f"beq x5, x6, {n}", {5: 1, 6: 1}, {}, 400, 400 + n)
            self.gives(f"beq x5, x6, {n}", {5: 1, 6: 2}, {}, 400, 404)


class Shifts(Case):
    def test_by_the_five_lowest_bits_of_a_value(self):
        for upper in (0, 32, 64, 0x100, 0x7FFFFFE0, 0x80000000, 0xFFFFFFE0):
            for by in (0, 1, 15, 16, 30, 31):
                b = upper + by
                for a in (0, 1, 3, 0x7FFFFFFF, LEAST, TOP, 0x89ABCDEF):
                    sign = TOP << 32 - by & TOP if a >= LEAST else 0
                    self.gives("sll x7, x5, x6", {5: a, 6: b}, {7: a << by & TOP})
                    self.gives("srl x7, x5, x6", {5: a, 6: b}, {7: a >> by})
                    self.gives("sra x7, x5, x6", {5: a, 6: b}, {7: a >> by | sign})

    def test_by_every_number(self):
        for by in range(32):
            for a in (0, 1, 3, 0x7FFFFFFF, LEAST, TOP, 0x89ABCDEF):
                sign = TOP << 32 - by & TOP if a >= LEAST else 0
                self.gives(f"slli x7, x5, {by}", {5: a}, {7: a << by & TOP})
                self.gives(f"srli x7, x5, {by}", {5: a}, {7: a >> by})
                self.gives(f"srai x7, x5, {by}", {5: a}, {7: a >> by | sign})


class LongRows(Case):
    def test_by_0(self):
        for a in (0, 1, 7, 0x7FFFFFFF, LEAST, 0xFFFFFFF9, TOP):
            for name, value in (("div", TOP), ("divu", TOP), ("rem", a), ("remu", a)):
                self.gives(f"{name} x7, x5, x6", {5: a, 6: 0}, {7: value})
                self.gives(f"{name} x7, x5, x0", {0: 3, 5: a}, {7: value})

    def test_the_least_by_the_one_below_0(self):
        for name, value in (("div", LEAST), ("rem", 0), ("divu", 0), ("remu", LEAST)):
            self.gives(f"{name} x7, x5, x6", {5: LEAST, 6: TOP}, {7: value})

    def test_signs_of_quotient_and_remainder(self):
        for a, b, quotient, remainder in ((7, 2, 3, 1), (-7, 2, -3, -1), (7, -2, -3, 1), (-7, -2, 3, -1),
                                          (6, 3, 2, 0), (-6, 3, -2, 0), (1, 2, 0, 1), (-1, 2, 0, -1), (-1, -2, 0, -1),
                                          (2147483647, -1, -2147483647, 0), (-2147483648, 1, -2147483648, 0),
                                          (-2147483648, 3, -715827882, -2), (2147483647, -2147483648, 0, 2147483647)):
            self.gives("div x7, x5, x6", {5: a % 2**32, 6: b % 2**32}, {7: quotient % 2**32})
            self.gives("rem x7, x5, x6", {5: a % 2**32, 6: b % 2**32}, {7: remainder % 2**32})

    def test_upper_halves_of_every_pair_of_signs(self):
        for a, b, both, none, first in (
            (3, 5, 0, 0, 0),
            (-3, 5, TOP, 4, TOP),
            (3, -5, TOP, 2, 2),
            (-3, -5, 0, 0xFFFFFFF8, 0xFFFFFFFD),
        ):
            values = {5: a % 2**32, 6: b % 2**32}
            self.gives("mulh x7, x5, x6", values, {7: both})
            self.gives("mulhu x7, x5, x6", values, {7: none})
            self.gives("mulhsu x7, x5, x6", values, {7: first})
            self.gives("mul x7, x5, x6", values, {7: a * b % 2**32})


class Refusals(Case):
    def test_loads_and_stores(self):
        for name in MEMORY:
            for operands in edge_operands(name):
                for pc in (0, 400, TOP):
                    self.assertEqual(step(pc, word_by_bits(name, *operands), registers_with({})), [-2], name)

    def test_no_instruction(self):
        for word in (0, TOP, 1, 0x7FFFFFFF, LEAST, 0x00000073, 0x00100073, 0x0FF0000F, 0x30001073, 0x00001067,
                     0x00002063, 0x00003063, 0x00003003, 0x00006003, 0x00007003, 0x00003023, 0x00007023, 0x02001013,
                     0x40001013, 0x02005013, 0x42005013, 0x04000033, 0x40001033, 0x42000033, 0x80000033, 0xFE000033):
            for pc in (0, 400, TOP):
                self.assertEqual(step(pc, word, registers_with({})), [-1], hex(word))

    def test_words_beside_instructions(self):
        for name in ROWS:
            for word in one_bit_away(word_by_bits(name, 9, 22, 5, 0)):
                self.agrees(400, word, registers_with({}))

    def test_every_op_f_and_g(self):
        registers = registers_with({})
        counts = {-1: 0, -2: 0, 0: 0}
        for word in words_of_every_opening():
            counts[step(400, word, registers)[0]] += 1
        # 8 of the 21 rows of op and f are loads and stores.
        self.assertEqual(counts[-2], 8 * 128)
        self.assertEqual(counts[0], 3 * 8 * 128 + 13 * 128 + 21)

    def test_words_of_all_sorts(self):
        for word in some_words(3000):
            self.agrees(400, word, registers_with({}))


class NothingKept(Case):
    LINES = ("add x7, x5, x6", "add x5, x5, x6", "jal x1, -64", "jalr x5, 8(x5)", "beq x5, x6, 64", "lw x5, 0(x6)",
             "sw x5, 0(x6)", "lui x31, 5", "addi x0, x5, 1", "div x7, x5, x0")

    def test_the_list_handed_in_is_as_it_was(self):
        for line in self.LINES:
            registers = registers_with({})
            answer = step(400, word_of(line), registers)
            self.assertEqual(registers, registers_with({}))
            self.assertEqual(step(400, word_of(line), Watched(registers)), answer)
        for word in (0, TOP):
            self.assertEqual(step(400, word, Watched(registers_with({}))), [-1])

    def test_a_second_call_answers_as_the_first(self):
        calls = [(400, word_of(line), registers_with({5: 77})) for line in self.LINES]
        calls += [(8, 0, registers_with({})), (TOP, word_of("add x7, x5, x6"), registers_with({5: 1, 6: 2}))]
        self.assertEqual(answers_again_and_again(self, step, calls), [expected(*call) for call in calls])

    def test_the_arguments_by_their_names(self):
        registers = registers_with({5: 1, 6: 2})
        self.assertEqual(step(pc=400, word=word_of("add x7, x5, x6"), registers=registers)[8], 3)


if __name__ == "__main__":
    unittest.main()
