"""Instructions as lines of assembler, as words of 32 bits, and as what they do to registers."""

MOST_LINE_BYTES = 255
GREATEST_MOST = 64

TAB = 9
BLANK = 32
MINUS = 45
# The signs that part what stands on either side of them and are pieces of a line themselves: ( ) and the comma.
MARKS = (40, 41, 44)

# Name, kind, op, f, g, in the document's order. A 0 stands where a kind has no f or no g, so it adds nothing there.
ROWS = (
    ("lui", "U", 55, 0, 0),
    ("auipc", "U", 23, 0, 0),
    ("jal", "J", 111, 0, 0),
    ("jalr", "M", 103, 0, 0),
    ("beq", "B", 99, 0, 0),
    ("bne", "B", 99, 1, 0),
    ("blt", "B", 99, 4, 0),
    ("bge", "B", 99, 5, 0),
    ("bltu", "B", 99, 6, 0),
    ("bgeu", "B", 99, 7, 0),
    ("lb", "M", 3, 0, 0),
    ("lh", "M", 3, 1, 0),
    ("lw", "M", 3, 2, 0),
    ("lbu", "M", 3, 4, 0),
    ("lhu", "M", 3, 5, 0),
    ("sb", "S", 35, 0, 0),
    ("sh", "S", 35, 1, 0),
    ("sw", "S", 35, 2, 0),
    ("addi", "I", 19, 0, 0),
    ("slti", "I", 19, 2, 0),
    ("sltiu", "I", 19, 3, 0),
    ("xori", "I", 19, 4, 0),
    ("ori", "I", 19, 6, 0),
    ("andi", "I", 19, 7, 0),
    ("slli", "H", 19, 1, 0),
    ("srli", "H", 19, 5, 0),
    ("srai", "H", 19, 5, 32),
    ("add", "R", 51, 0, 0),
    ("sub", "R", 51, 0, 32),
    ("sll", "R", 51, 1, 0),
    ("slt", "R", 51, 2, 0),
    ("sltu", "R", 51, 3, 0),
    ("xor", "R", 51, 4, 0),
    ("srl", "R", 51, 5, 0),
    ("sra", "R", 51, 5, 32),
    ("or", "R", 51, 6, 0),
    ("and", "R", 51, 7, 0),
    ("mul", "R", 51, 0, 1),
    ("mulh", "R", 51, 1, 1),
    ("mulhsu", "R", 51, 2, 1),
    ("mulhu", "R", 51, 3, 1),
    ("div", "R", 51, 4, 1),
    ("divu", "R", 51, 5, 1),
    ("rem", "R", 51, 6, 1),
    ("remu", "R", 51, 7, 1),
)
NAME = 0
KIND = 1
OP = 2
F = 3
G = 4

# The lowest bit of d, a and b in a word.
PLACES = {"d": 7, "a": 15, "b": 20}

# By the kind:
# - what stands behind the name: each sign is one piece of the line, a letter an operand, a mark itself;
# - the bits of a word that the table fixes: op; op and f; or op, f and g;
# - how far n may lie below 0, how far above, and what it must be a multiple of; R has no n: there it stays 0;
# - where n lies in the word, run of bits by run: the run's lowest bit in n, its mask, its lowest bit in the word.
KINDS = {
    "R": ("d,a,b", 0xFE00707F, 0, 0, 1, ()),
    "I": ("d,a,n", 0x0000707F, 2048, 2047, 1, ((0, 4095, 20),)),
    "M": ("d,n(a)", 0x0000707F, 2048, 2047, 1, ((0, 4095, 20),)),
    "H": ("d,a,n", 0xFE00707F, 0, 31, 1, ((0, 31, 20),)),
    "S": ("b,n(a)", 0x0000707F, 2048, 2047, 1, ((5, 127, 25), (0, 31, 7))),
    "B": ("a,b,n", 0x0000707F, 4096, 4094, 2, ((12, 1, 31), (5, 63, 25), (1, 15, 8), (11, 1, 7))),
    "U": ("d,n", 0x0000007F, 0, 1048575, 1, ((0, 1048575, 12),)),
    "J": ("d,n", 0x0000007F, 1048576, 1048574, 2, ((20, 1, 31), (1, 1023, 21), (11, 1, 20), (12, 255, 12))),
}
SHAPE = 0
FIXED = 1
BELOW = 2
ABOVE = 3
MULTIPLE = 4
RUNS = 5

# The ops of loads and of stores.
MEMORY_OPS = (3, 35)
# Registers and pc go round at it.
MODULUS = 4294967296


def encode(line):
    """0 and the word of the instruction whose line this is, or -1 alone."""
    if len(line) > MOST_LINE_BYTES:
        return [-1]
    pieces = pieces_of(line)
    row = row_named(pieces[:1])
    if row is None:
        return [-1]
    operands = operands_of(row[KIND], pieces[1:])
    if operands is None or not reaches(row[KIND], operands["n"]):
        return [-1]
    return [0, word_of(row, operands)]


def pieces_of(line):
    """The line cut at blanks, tabs and marks: lists of bytes, the marks among them, the blanks and tabs not."""
    pieces = []
    piece = []
    # The blank added at the end closes a last piece like any other.
    for byte in line + [BLANK]:
        apart = byte in (BLANK, TAB) or byte in MARKS
        if not apart:
            piece.append(byte)
        elif len(piece) > 0:
            pieces.append(piece)
            piece = []
        if byte in MARKS:
            pieces.append([byte])
    return pieces


def row_named(pieces):
    """The row of the table whose name is the only piece, or None."""
    for row in ROWS:
        if pieces == [spelled(row[NAME])]:
            return row
    return None


def operands_of(kind, pieces):
    """d, a, b and n, 0 for those that the kind hasn't; or None if the pieces aren't written as the kind asks."""
    shape = KINDS[kind][SHAPE]
    if len(pieces) != len(shape):
        return None
    operands = {"d": 0, "a": 0, "b": 0, "n": 0}
    for sign, piece in zip(shape, pieces):
        if sign in operands:
            value = number_of(piece) if sign == "n" else place_of(piece)
            if value is None:
                return None
            operands[sign] = value
        elif piece != spelled(sign):
            return None
    return operands


def place_of(piece):
    """Which of x0 to x31 the piece is, or None."""
    for place in range(32):
        if piece == spelled(f"x{place}"):
            return place
    return None


def number_of(piece):
    """The number that the piece is, whatever its size, or None."""
    if piece[:2] == spelled("0x"):
        return value_of(piece[2:], 16, 8)
    if piece[0] != MINUS:
        return value_of(piece, 10, 10)
    value = value_of(piece[1:], 10, 10)
    return None if value is None else -value


def value_of(digits, base, most):
    """What the digits are worth in the base, or None if there's none, more than most, or something else."""
    if len(digits) == 0 or len(digits) > most:
        return None
    value = 0
    for byte in digits:
        digit = digit_of(byte)
        if digit >= base:
            return None
        value = value * base + digit
    return value


def digit_of(byte):
    """What a hexadecimal digit is worth; 16, too much for any base, for every other byte."""
    if ord("0") <= byte <= ord("9"):
        return byte - ord("0")
    if ord("a") <= byte <= ord("f"):
        return byte - ord("a") + 10
    if ord("A") <= byte <= ord("F"):
        return byte - ord("A") + 10
    return 16


def spelled(text):
    """The text's bytes."""
    return [ord(sign) for sign in text]


def reaches(kind, n):
    """Whether an instruction of the kind can hold n."""
    told = KINDS[kind]
    return -told[BELOW] <= n <= told[ABOVE] and n % told[MULTIPLE] == 0


def word_of(row, operands):
    """The row's word with these operands; those that its kind hasn't are 0 and leave their bits to n or g."""
    word = fixed_bits(row) | laid(row[KIND], operands["n"])
    for letter in PLACES:
        word = word | operands[letter] << PLACES[letter]
    return word


def fixed_bits(row):
    """op, f and g of the row where a word has them."""
    return row[OP] | row[F] << 12 | row[G] << 25


def laid(kind, n):
    """The bits of n where the kind's words have them; of n below 0 those of its two's complement."""
    word = 0
    for low, mask, place in KINDS[kind][RUNS]:
        word = word | (n >> low & mask) << place
    return word


def decode(word, most):
    """How many bytes the canonical line of the word's instruction has, and they; or -1 or -2 alone."""
    row = row_of(word)
    if row is None or most < 0 or most > GREATEST_MOST:
        return [-1]
    line = spelled(canonical(row, operands_in(row[KIND], word)))
    if len(line) > most:
        return [-2]
    return [len(line)] + line


def row_of(word):
    """The row of the table that the word is an instruction of, or None."""
    for row in ROWS:
        if word & KINDS[row[KIND]][FIXED] == fixed_bits(row):
            return row
    return None


def operands_in(kind, word):
    """d, a, b and n of a word of the kind, 0 for those that the kind hasn't."""
    operands = {"d": 0, "a": 0, "b": 0, "n": gathered(kind, word)}
    for letter in PLACES:
        if letter in KINDS[kind][SHAPE]:
            operands[letter] = word >> PLACES[letter] & 31
    return operands


def gathered(kind, word):
    """n from where the kind's words have its bits."""
    n = 0
    for low, mask, place in KINDS[kind][RUNS]:
        n = n | (word >> place & mask) << low
    # Bits that are worth more than the greatest n are the two's complement of one below 0.
    return n - 2 * KINDS[kind][BELOW] if n > KINDS[kind][ABOVE] else n


def canonical(row, operands):
    """The text of the row's canonical line with these operands."""
    text = row[NAME] + " "
    for sign in KINDS[row[KIND]][SHAPE]:
        if sign == "n":
            text = text + str(operands["n"])
        elif sign in operands:
            text = text + "x" + str(operands[sign])
        else:
            text = text + (", " if sign == "," else sign)
    return text


def fields(word):
    """Which row of the table the word is an instruction of, and its d, a, b and n; or -1 alone."""
    row = row_of(word)
    if row is None:
        return [-1]
    operands = operands_in(row[KIND], word)
    return [ROWS.index(row), operands["d"], operands["a"], operands["b"], operands["n"]]


def step(pc, word, registers):
    """0, then the registers and pc behind the word's instruction; -1 alone if it's none, -2 if it loads or stores."""
    row = row_of(word)
    if row is None:
        return [-1]
    if row[OP] in MEMORY_OPS:
        return [-2]
    operands = operands_in(row[KIND], word)
    # x0 is read as 0 whatever stands there.
    seen = [0] + registers[1:]
    a = seen[operands["a"]]
    b = seen[operands["b"]]
    n = operands["n"]
    after = list(registers)
    # Branches have no d: theirs is 0, as x0's, and neither is written.
    if operands["d"] > 0:
        after[operands["d"]] = result_of(row, pc, a, b, n) % MODULUS
    return [0] + after + [pc_after(row, pc, a, b, n) % MODULUS]


def signed(value):
    """The number with a sign that has the value's 32 bits."""
    return value - MODULUS if value >= MODULUS // 2 else value


def pc_after(row, pc, a, b, n):
    """The next pc, before it goes round."""
    if row[NAME] == "jalr":
        return (a + n) // 2 * 2
    if row[NAME] == "jal" or (row[KIND] == "B" and branches(row[NAME], a, b)):
        return pc + n
    return pc + 4


def branches(name, a, b):
    """Whether the branch is taken."""
    if name == "beq":
        return a == b
    if name == "bne":
        return a != b
    if name == "blt":
        return signed(a) < signed(b)
    if name == "bge":
        return signed(a) >= signed(b)
    return a < b if name == "bltu" else a >= b


def result_of(row, pc, a, b, n):
    """What the instruction puts in d, before it goes round."""
    if row[NAME] == "lui":
        return n * 4096
    if row[NAME] == "auipc":
        return pc + n * 4096
    if row[NAME] in ("jal", "jalr"):
        return pc + 4
    if row[KIND] != "R":
        return simple_result(row[NAME], a, n % MODULUS)
    return long_result(row[NAME], a, b) if row[G] == 1 else simple_result(row[NAME], a, b)


def simple_result(name, a, b):
    """The result of a row of addi to and, b being n without its sign where the row has n."""
    if name in ("addi", "add"):
        return a + b
    if name == "sub":
        return a - b
    if name in ("slti", "slt"):
        return 1 if signed(a) < signed(b) else 0
    if name in ("sltiu", "sltu"):
        return 1 if a < b else 0
    if name in ("xori", "xor"):
        return a ^ b
    if name in ("ori", "or"):
        return a | b
    if name in ("andi", "and"):
        return a & b
    if name in ("slli", "sll"):
        return a << b % 32
    return (a if name in ("srli", "srl") else signed(a)) >> b % 32


def long_result(name, a, b):
    """The result of a row of mul to remu."""
    if name == "mul":
        return a * b
    if name == "mulh":
        return signed(a) * signed(b) >> 32
    if name == "mulhsu":
        return signed(a) * b >> 32
    if name == "mulhu":
        return a * b >> 32
    if name == "div":
        return quotient(signed(a), signed(b))
    if name == "divu":
        return quotient(a, b)
    return remainder(signed(a), signed(b)) if name == "rem" else remainder(a, b)


def quotient(a, b):
    """a by b, towards 0; by 0 the number that has all bits."""
    if b == 0:
        return -1
    size = abs(a) // abs(b)
    return size if (a < 0) == (b < 0) else -size


def remainder(a, b):
    """What the quotient leaves of a."""
    return a if b == 0 else a - b * quotient(a, b)
