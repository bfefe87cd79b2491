"""Instructions as lines of assembler and as words of 32 bits."""

MOST_LINE_BYTES = 255
GREATEST_MOST = 64

TAB = 9
BLANK = 32
MINUS = 45
# The signs that part what stands on either side of them and are pieces of a line themselves: ( ) and the comma.
MARKS = (40, 41, 44)

# Name, kind, op, f, g, in the document's order. A 0 stands where a kind has no f or no g, so it adds nothing there.
ROWS = (
    ("lui", "U", 55, 0, 0),
    ("auipc", "U", 23, 0, 0),
    ("jal", "J", 111, 0, 0),
    ("jalr", "M", 103, 0, 0),
    ("beq", "B", 99, 0, 0),
    ("bne", "B", 99, 1, 0),
    ("blt", "B", 99, 4, 0),
    ("bge", "B", 99, 5, 0),
    ("bltu", "B", 99, 6, 0),
    ("bgeu", "B", 99, 7, 0),
    ("lb", "M", 3, 0, 0),
    ("lh", "M", 3, 1, 0),
    ("lw", "M", 3, 2, 0),
    ("lbu", "M", 3, 4, 0),
    ("lhu", "M", 3, 5, 0),
    ("sb", "S", 35, 0, 0),
    ("sh", "S", 35, 1, 0),
    ("sw", "S", 35, 2, 0),
    ("addi", "I", 19, 0, 0),
    ("slti", "I", 19, 2, 0),
    ("sltiu", "I", 19, 3, 0),
    ("xori", "I", 19, 4, 0),
    ("ori", "I", 19, 6, 0),
    ("andi", "I", 19, 7, 0),
    ("slli", "H", 19, 1, 0),
    ("srli", "H", 19, 5, 0),
    ("srai", "H", 19, 5, 32),
    ("add", "R", 51, 0, 0),
    ("sub", "R", 51, 0, 32),
    ("sll", "R", 51, 1, 0),
    ("slt", "R", 51, 2, 0),
    ("sltu", "R", 51, 3, 0),
    ("xor", "R", 51, 4, 0),
    ("srl", "R", 51, 5, 0),
    ("sra", "R", 51, 5, 32),
    ("or", "R", 51, 6, 0),
    ("and", "R", 51, 7, 0),
    ("mul", "R", 51, 0, 1),
    ("mulh", "R", 51, 1, 1),
    ("mulhsu", "R", 51, 2, 1),
    ("mulhu", "R", 51, 3, 1),
    ("div", "R", 51, 4, 1),
    ("divu", "R", 51, 5, 1),
    ("rem", "R", 51, 6, 1),
    ("remu", "R", 51, 7, 1),
)
NAME = 0
KIND = 1
OP = 2
F = 3
G = 4

# The bits of a word that the table fixes, by the kind: op; op and f; or op, f and g.
FIXED = {
    "U": 0x0000007F, "J": 0x0000007F,
    "I": 0x0000707F, "M": 0x0000707F, "S": 0x0000707F, "B": 0x0000707F,
    "R": 0xFE00707F, "H": 0xFE00707F,
}

# The lowest bit of d, a and b in a word.
PLACES = {"d": 7, "a": 15, "b": 20}

# What stands behind the name, by the kind: each sign is one piece of the line, a letter an operand, a mark itself.
SHAPES = {
    "R": "d,a,b",
    "I": "d,a,n",
    "M": "d,n(a)",
    "H": "d,a,n",
    "S": "b,n(a)",
    "B": "a,b,n",
    "U": "d,n",
    "J": "d,n",
}

# How far n may lie below 0, how far above, and what it must be a multiple of. R has no n: there it stays 0.
REACHES = {
    "R": (0, 0, 1),
    "I": (2048, 2047, 1),
    "M": (2048, 2047, 1),
    "H": (0, 31, 1),
    "S": (2048, 2047, 1),
    "B": (4096, 4094, 2),
    "U": (0, 1048575, 1),
    "J": (1048576, 1048574, 2),
}
BELOW = 0
ABOVE = 1
MULTIPLE = 2

# Where n lies in the word, run of bits by run: the run's lowest bit in n, its mask, its lowest bit in the word.
RUNS = {
    "R": (),
    "I": ((0, 4095, 20),),
    "M": ((0, 4095, 20),),
    "H": ((0, 31, 20),),
    "S": ((5, 127, 25), (0, 31, 7)),
    "B": ((12, 1, 31), (5, 63, 25), (1, 15, 8), (11, 1, 7)),
    "U": ((0, 1048575, 12),),
    "J": ((20, 1, 31), (1, 1023, 21), (11, 1, 20), (12, 255, 12)),
}


def encode(line):
    """0 and the word of the instruction whose line this is, or -1 alone."""
    if len(line) > MOST_LINE_BYTES:
        return [-1]
    pieces = pieces_of(line)
    row = row_named(pieces[:1])
    if row is None:
        return [-1]
    operands = operands_of(row[KIND], pieces[1:])
    if operands is None or not reaches(row[KIND], operands["n"]):
        return [-1]
    return [0, word_of(row, operands)]


def pieces_of(line):
    """The line cut at blanks, tabs and marks: lists of bytes, the marks among them, the blanks and tabs not."""
    pieces = []
    piece = []
    # The blank added at the end closes a last piece like any other.
    for byte in line + [BLANK]:
        apart = byte in (BLANK, TAB) or byte in MARKS
        if not apart:
            piece.append(byte)
        elif len(piece) > 0:
            pieces.append(piece)
            piece = []
        if byte in MARKS:
            pieces.append([byte])
    return pieces


def row_named(pieces):
    """The row of the table whose name is the only piece, or None."""
    for row in ROWS:
        if pieces == [spelled(row[NAME])]:
            return row
    return None


def operands_of(kind, pieces):
    """d, a, b and n, 0 for those that the kind hasn't; or None if the pieces aren't written as the kind asks."""
    shape = SHAPES[kind]
    if len(pieces) != len(shape):
        return None
    operands = {"d": 0, "a": 0, "b": 0, "n": 0}
    for sign, piece in zip(shape, pieces):
        if sign in operands:
            value = number_of(piece) if sign == "n" else place_of(piece)
            if value is None:
                return None
            operands[sign] = value
        elif piece != spelled(sign):
            return None
    return operands


def place_of(piece):
    """Which of x0 to x31 the piece is, or None."""
    for place in range(32):
        if piece == spelled(f"x{place}"):
            return place
    return None


def number_of(piece):
    """The number that the piece is, whatever its size, or None."""
    if piece[:2] == spelled("0x"):
        return value_of(piece[2:], 16, 8)
    if piece[0] != MINUS:
        return value_of(piece, 10, 10)
    value = value_of(piece[1:], 10, 10)
    return None if value is None else -value


def value_of(digits, base, most):
    """What the digits are worth in the base, or None if there's none, more than most, or something else."""
    if len(digits) == 0 or len(digits) > most:
        return None
    value = 0
    for byte in digits:
        digit = digit_of(byte)
        if digit >= base:
            return None
        value = value * base + digit
    return value


def digit_of(byte):
    """What a hexadecimal digit is worth; 16, too much for any base, for every other byte."""
    if ord("0") <= byte <= ord("9"):
        return byte - ord("0")
    if ord("a") <= byte <= ord("f"):
        return byte - ord("a") + 10
    if ord("A") <= byte <= ord("F"):
        return byte - ord("A") + 10
    return 16


def spelled(text):
    """The text's bytes."""
    return [ord(sign) for sign in text]


def reaches(kind, n):
    """Whether an instruction of the kind can hold n."""
    reach = REACHES[kind]
    return -reach[BELOW] <= n <= reach[ABOVE] and n % reach[MULTIPLE] == 0


def word_of(row, operands):
    """The row's word with these operands; those that its kind hasn't are 0 and leave their bits to n or g."""
    word = fixed_bits(row) | laid(row[KIND], operands["n"])
    for letter in PLACES:
        word = word | operands[letter] << PLACES[letter]
    return word


def fixed_bits(row):
    """op, f and g of the row where a word has them."""
    return row[OP] | row[F] << 12 | row[G] << 25


def laid(kind, n):
    """The bits of n where the kind's words have them; of n below 0 those of its two's complement."""
    word = 0
    for low, mask, place in RUNS[kind]:
        word = word | (n >> low & mask) << place
    return word


def decode(word, most):
    """How many bytes the canonical line of the word's instruction has, and they; or -1 or -2 alone."""
    row = row_of(word)
    if row is None or most < 0 or most > GREATEST_MOST:
        return [-1]
    line = spelled(canonical(row, operands_in(row[KIND], word)))
    if len(line) > most:
        return [-2]
    return [len(line)] + line


def row_of(word):
    """The row of the table that the word is an instruction of, or None."""
    for row in ROWS:
        if word & FIXED[row[KIND]] == fixed_bits(row):
            return row
    return None


def operands_in(kind, word):
    """d, a, b and n of a word of the kind, 0 for those that the kind hasn't."""
    operands = {"d": 0, "a": 0, "b": 0, "n": gathered(kind, word)}
    for letter in PLACES:
        if letter in SHAPES[kind]:
            operands[letter] = word >> PLACES[letter] & 31
    return operands


def gathered(kind, word):
    """n from where the kind's words have its bits."""
    n = 0
    for low, mask, place in RUNS[kind]:
        n = n | (word >> place & mask) << low
    reach = REACHES[kind]
    # Bits that are worth more than the greatest n are the two's complement of one below 0.
    return n - 2 * reach[BELOW] if n > reach[ABOVE] else n


def canonical(row, operands):
    """The text of the row's canonical line with these operands."""
    text = row[NAME] + " "
    for sign in SHAPES[row[KIND]]:
        if sign == "n":
            text = text + str(operands["n"])
        elif sign in operands:
            text = text + "x" + str(operands[sign])
        else:
            text = text + (", " if sign == "," else sign)
    return text


def fields(word):
    """Which row of the table the word is an instruction of, and its d, a, b and n; or -1 alone."""
    row = row_of(word)
    if row is None:
        return [-1]
    operands = operands_in(row[KIND], word)
    return [ROWS.index(row), operands["d"], operands["a"], operands["b"], operands["n"]]
