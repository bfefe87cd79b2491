"""What the tests share: words with their lines, and the document's table and words written a second time."""
import re

# The words of these two lists are those of another assembler, GNU as 2.40; its n of B and J was written as .+n.
EVERY_ROW = (
    ("lui x5, 74565", 0x123452B7),
    ("auipc x6, 703710", 0xABCDE317),
    ("jal x7, 699050", 0x2ABAA3EF),
    ("jalr x8, -273(x9)", 0xEEF48467),
    ("beq x10, x11, 1366", 0x54B50B63),
    ("bne x12, x13, -1366", 0xAAD615E3),
    ("blt x14, x15, 2730", 0x2AF745E3),
    ("bge x16, x17, -2732", 0xD5185A63),
    ("bltu x18, x19, 3754", 0x6B3965E3),
    ("bgeu x20, x21, -98", 0xF95A7FE3),
    ("lb x22, 1365(x23)", 0x555B8B03),
    ("lh x24, -1366(x25)", 0xAAAC9C03),
    ("lw x26, 682(x27)", 0x2AADAD03),
    ("lbu x28, -683(x29)", 0xD55ECE03),
    ("lhu x30, 341(x31)", 0x155FDF03),
    ("sb x1, -342(x2)", 0xEA110523),
    ("sh x3, 1365(x4)", 0x54321AA3),
    ("sw x5, -1366(x6)", 0xAA532523),
    ("addi x7, x8, 1365", 0x55540393),
    ("slti x9, x10, -1366", 0xAAA52493),
    ("sltiu x11, x12, 682", 0x2AA63593),
    ("xori x13, x14, -683", 0xD5574693),
    ("ori x15, x16, 341", 0x15586793),
    ("andi x17, x18, -342", 0xEAA97893),
    ("slli x19, x20, 21", 0x015A1993),
    ("srli x21, x22, 10", 0x00AB5A93),
    ("srai x23, x24, 13", 0x40DC5B93),
    ("add x25, x26, x27", 0x01BD0CB3),
    ("sub x28, x29, x30", 0x41EE8E33),
    ("sll x1, x2, x4", 0x004110B3),
    ("slt x8, x16, x31", 0x01F82433),
    ("sltu x3, x5, x9", 0x0092B1B3),
    ("xor x17, x6, x10", 0x00A348B3),
    ("srl x18, x12, x20", 0x01465933),
    ("sra x24, x7, x11", 0x40B3DC33),
    ("or x13, x19, x14", 0x00E9E6B3),
    ("and x21, x25, x22", 0x016CFAB3),
    ("mul x26, x28, x15", 0x02FE0D33),
    ("mulh x23, x27, x29", 0x03DD9BB3),
    ("mulhsu x30, x1, x2", 0x0220AF33),
    ("mulhu x4, x8, x16", 0x03043233),
    ("div x31, x3, x5", 0x0251CFB3),
    ("divu x9, x17, x6", 0x0268D4B3),
    ("rem x10, x18, x12", 0x02C96533),
    ("remu x20, x24, x7", 0x027C7A33),
)

EVERY_KIND = (
    ("add x0, x0, x0", 0x00000033),
    ("sub x31, x31, x31", 0x41FF8FB3),
    ("and x0, x31, x1", 0x001FF033),
    ("mulhsu x31, x0, x30", 0x03E02FB3),
    ("addi x0, x0, 0", 0x00000013),
    ("addi x1, x2, -1", 0xFFF10093),
    ("addi x31, x31, -2048", 0x800F8F93),
    ("andi x31, x0, 2047", 0x7FF07F93),
    ("xori x0, x31, -2047", 0x801FC013),
    ("ori x16, x8, 1", 0x00146813),
    ("jalr x0, 0(x1)", 0x00008067),
    ("lw x31, 2047(x31)", 0x7FFFAF83),
    ("lbu x0, -2048(x0)", 0x80004003),
    ("lh x4, -1(x8)", 0xFFF41203),
    ("lhu x9, 4(x3)", 0x0041D483),
    ("slli x0, x0, 0", 0x00001013),
    ("slli x31, x31, 31", 0x01FF9F93),
    ("srli x1, x2, 1", 0x00115093),
    ("srai x31, x0, 31", 0x41F05F93),
    ("srai x0, x31, 16", 0x410FD013),
    ("sb x0, 0(x0)", 0x00000023),
    ("sw x31, 2047(x31)", 0x7FFFAFA3),
    ("sh x0, -2048(x31)", 0x800F9023),
    ("sw x31, -1(x0)", 0xFFF02FA3),
    ("sb x3, 31(x5)", 0x00328FA3),
    ("sb x3, 32(x5)", 0x02328023),
    ("beq x0, x0, 0", 0x00000063),
    ("bgeu x31, x31, 4094", 0x7FFFFFE3),
    ("bne x0, x31, -4096", 0x81F01063),
    ("blt x31, x0, -2", 0xFE0FCFE3),
    ("bge x1, x2, 2048", 0x0020D0E3),
    ("bltu x2, x1, 30", 0x00116F63),
    ("beq x7, x9, 32", 0x02938063),
    ("beq x7, x9, 2", 0x00938163),
    ("lui x0, 0", 0x00000037),
    ("lui x31, 1048575", 0xFFFFFFB7),
    ("auipc x1, 1", 0x00001097),
    ("auipc x31, 524288", 0x80000F97),
    ("jal x0, 0", 0x0000006F),
    ("jal x31, 1048574", 0x7FFFFFEF),
    ("jal x1, -1048576", 0x800000EF),
    ("jal x5, -2", 0xFFFFF2EF),
    ("jal x9, 2048", 0x001004EF),
    ("jal x9, 4096", 0x000014EF),
    ("jal x9, 2046", 0x7FE004EF),
    ("jal x9, 2", 0x002004EF),
    ("jal x9, 1044480", 0x000FF4EF),
)

# Written here again, as the document has it, so that a slip in the program's own table shows.
TABLE = """
lui U 55      auipc U 23    jal J 111      jalr M 103 0
beq B 99 0    bne B 99 1    blt B 99 4     bge B 99 5     bltu B 99 6    bgeu B 99 7
lb M 3 0      lh M 3 1      lw M 3 2       lbu M 3 4      lhu M 3 5
sb S 35 0     sh S 35 1     sw S 35 2
addi I 19 0   slti I 19 2   sltiu I 19 3   xori I 19 4    ori I 19 6     andi I 19 7
slli H 19 1 0 srli H 19 5 0 srai H 19 5 32
add R 51 0 0  sub R 51 0 32 sll R 51 1 0   slt R 51 2 0   sltu R 51 3 0
xor R 51 4 0  srl R 51 5 0  sra R 51 5 32  or R 51 6 0    and R 51 7 0
mul R 51 0 1  mulh R 51 1 1 mulhsu R 51 2 1 mulhu R 51 3 1
div R 51 4 1  divu R 51 5 1 rem R 51 6 1   remu R 51 7 1
"""
ROWS = {
    name: (kind, int(op), int(f or 0), int(g or 0))
    for name, kind, op, f, g in re.findall(r"([a-z]+) ([A-Z]) (\d+)(?: (\d+))?(?: (\d+))?", TABLE)
}

LEAST_AND_GREATEST = {
    "I": (-2048, 2047, 1),
    "M": (-2048, 2047, 1),
    "H": (0, 31, 1),
    "S": (-2048, 2047, 1),
    "B": (-4096, 4094, 2),
    "U": (0, 1048575, 1),
    "J": (-1048576, 1048574, 2),
}
FORMS = {
    "R": "x{d}, x{a}, x{b}",
    "I": "x{d}, x{a}, {n}",
    "H": "x{d}, x{a}, {n}",
    "M": "x{d}, {n}(x{a})",
    "S": "x{b}, {n}(x{a})",
    "B": "x{a}, x{b}, {n}",
    "U": "x{d}, {n}",
    "J": "x{d}, {n}",
}


def bytes_of(text):
    return list(text.encode("latin-1"))


def line_of(name, d=0, a=0, b=0, n=0):
    return name + " " + FORMS[ROWS[name][0]].format(d=d, a=a, b=b, n=n)


def bits(n, high, low):
    """The bits high to low of n, as a text of 0 and 1."""
    return "".join(str(n >> place & 1) for place in range(high, low - 1, -1))


def word_by_bits(name, d=0, a=0, b=0, n=0):
    """The word written out bit by bit from 31 to 0, as the instruction set's manual draws it."""
    kind, op, f, g = ROWS[name]
    d, a, b = bits(d, 4, 0), bits(a, 4, 0), bits(b, 4, 0)
    op, f, g = bits(op, 6, 0), bits(f, 2, 0), bits(g, 6, 0)
    drawn = {
        "R": g + b + a + f + d + op,
        "I": bits(n, 11, 0) + a + f + d + op,
        "M": bits(n, 11, 0) + a + f + d + op,
        "H": g + bits(n, 4, 0) + a + f + d + op,
        "S": bits(n, 11, 5) + b + a + f + bits(n, 4, 0) + op,
        "B": bits(n, 12, 12) + bits(n, 10, 5) + b + a + f + bits(n, 4, 1) + bits(n, 11, 11) + op,
        "U": bits(n, 19, 0) + d + op,
        "J": bits(n, 20, 20) + bits(n, 10, 1) + bits(n, 11, 11) + bits(n, 19, 12) + d + op,
    }[kind]
    assert len(drawn) == 32
    return int(drawn, 2)


def read_by_bits(word):
    """The row's name and d, a, b, n, read from the word's 32 bits written out from 31 to 0; or None."""
    drawn = f"{word:032b}"

    def cut(high, low):
        return drawn[31 - high:32 - low]

    def value(digits):
        return int(digits, 2)

    for name, (kind, op, f, g) in ROWS.items():
        if value(cut(6, 0)) != op:
            continue
        if kind not in "UJ" and value(cut(14, 12)) != f:
            continue
        if kind in "RH" and value(cut(31, 25)) != g:
            continue
        # The first digit is the sign's.
        digits = {
            "R": "0",
            "I": cut(31, 20),
            "M": cut(31, 20),
            "H": "0" + cut(24, 20),
            "S": cut(31, 25) + cut(11, 7),
            "B": cut(31, 31) + cut(7, 7) + cut(30, 25) + cut(11, 8) + "0",
            "U": "0" + cut(31, 12),
            "J": cut(31, 31) + cut(19, 12) + cut(20, 20) + cut(30, 21) + "0",
        }[kind]
        n = value(digits) - (1 << len(digits) if digits[0] == "1" else 0)
        d = value(cut(11, 7)) if kind in "RIMHUJ" else 0
        a = value(cut(19, 15)) if kind in "RIMHSB" else 0
        b = value(cut(24, 20)) if kind in "RSB" else 0
        return name, d, a, b, n
    return None


def edge_operands(name):
    """d, a, b, n for the row: the edges of n and of the places, and some between, 0 for what its kind hasn't."""
    kind = ROWS[name][0]
    least, greatest, multiple = LEAST_AND_GREATEST.get(kind, (0, 0, 1))
    numbers = {least, least + multiple, -multiple, 0, multiple, 10, greatest - multiple, greatest}
    numbers |= {sign << place for place in range(20) for sign in (1, -1)} | {-1, 1}
    for n in sorted(numbers):
        if least <= n <= greatest and n % multiple == 0:
            for d, a, b in ((0, 0, 0), (31, 31, 31), (0, 31, 0), (31, 0, 31), (1, 2, 4), (8, 16, 9), (10, 19, 30)):
                yield (d if kind in "RIMHUJ" else 0, a if kind in "RIMHSB" else 0, b if kind in "RSB" else 0, n)


def one_bit_away(word):
    return [word ^ 1 << place for place in range(32)]


def words_of_every_opening():
    """A word for each op, f and g, 131072 in all; the rest of their bits is neither all 0 nor all 1."""
    rest = 0b01001 << 7 | 0b10110 << 15 | 0b00101 << 20
    return [rest | op | f << 12 | g << 25 for op in range(128) for f in range(8) for g in range(128)]


def some_words(count):
    """Words with nothing in common, the same each time."""
    words = []
    word = 1
    for turn in range(count):
        word = (word * 6364136223846793005 + 1442695040888963407) % 2**64
        words.append(word >> 32)
    return words


def some_instructions(count):
    """Words as above, but op, f and g are a row's, each row in its turn."""
    openings = [word_by_bits(name) for name in ROWS]
    fixed = {"U": 0x7F, "J": 0x7F, "R": 0xFE00707F, "H": 0xFE00707F}
    masks = [fixed.get(kind, 0x707F) for kind, *rest in ROWS.values()]
    return [word & ~masks[turn % 45] | openings[turn % 45] for turn, word in enumerate(some_words(count))]


class Watched(list):
    """A list that can't be changed, not for a while either."""

    def refused(self, *rest, **named):
        raise AssertionError("the list handed in was changed")

    append = extend = insert = pop = remove = clear = sort = reverse = refused
    __setitem__ = __delitem__ = __iadd__ = __imul__ = refused


def answers_again_and_again(case, function, calls):
    """What the function answers to the calls; it must be the same in any order and whatever is done to an answer."""
    first = [list(function(*call)) for call in calls]
    case.assertEqual([function(*call) for call in calls], first)
    case.assertEqual([function(*call) for call in reversed(calls)], first[::-1])
    for call, before in zip(calls, first):
        given = function(*call)
        given.append(7)
        given[0] = 5
        case.assertEqual(function(*call), before)
    return first
