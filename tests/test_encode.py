"""Promise 1, encode."""
import re
import unittest

from oneinstruction.words import encode
from reference import (
    EVERY_KIND, EVERY_ROW, FORMS, LEAST_AND_GREATEST, ROWS, Watched, answers_again_and_again, bytes_of, line_of,
    word_by_bits,
)

# A line of each kind, by which the ways of writing are tried.
ONE_OF_EACH_KIND = (
    "sub x12, x3, x31",
    "addi x1, x20, -15",
    "lw x13, 0x7fA(x2)",
    "srai x30, x9, 31",
    "sh x0, -2048(x17)",
    "bgeu x8, x29, -14",
    "lui x5, 1048575",
    "jal x1, 0xffe",
)


def answer(text):
    return encode(bytes_of(text))


def pattern(kind):
    """The document's part on lines as a regular expression."""
    place = r"x([12]?[0-9]|3[01])(?![0-9A-Za-z])"
    number = r"(-?[0-9]{1,10}|0x[0-9A-Fa-f]{1,8})(?![0-9A-Za-z])"
    order = re.findall(r"x?\{(\w)\}|([,()])", FORMS[kind])
    parts = []
    for letter, mark in order:
        if letter:
            parts.append((number if letter == "n" else place).replace("(", f"(?P<{letter}>", 1))
        else:
            parts.append(re.escape(mark))
    return r"[ \t]*(?P<name>[a-z]+)[ \t]+" + r"[ \t]*".join(parts) + r"[ \t]*"


PATTERNS = {kind: re.compile(pattern(kind)) for kind in FORMS}


def expected(text):
    """The document's answer by the regular expressions and the drawn words."""
    for kind, form in PATTERNS.items():
        found = form.fullmatch(text)
        if found and len(text) <= 255 and ROWS.get(found["name"], "-")[0] == kind:
            values = {letter: int(digits, 16 if digits.startswith("0x") else 10)
                      for letter, digits in found.groupdict().items() if letter != "name"}
            n = values.get("n", 0)
            least, greatest, multiple = LEAST_AND_GREATEST.get(kind, (0, 0, 1))
            if least <= n <= greatest and n % multiple == 0:
                return [0, word_by_bits(found["name"], **values)]
    return [-1]


class Case(unittest.TestCase):
    def takes(self, text, word):
        self.assertEqual(answer(text), [0, word], repr(text))

    def refuses(self, text):
        self.assertEqual(answer(text), [-1], repr(text))


class Words(Case):
    def test_a_line_of_every_row(self):
        self.assertEqual(len(ROWS), 45)
        self.assertEqual([line.split()[0] for line, word in EVERY_ROW], list(ROWS))
        for line, word in EVERY_ROW:
            self.takes(line, word)

    def test_several_lines_of_every_kind(self):
        self.assertEqual({ROWS[line.split()[0]][0] for line, word in EVERY_KIND}, set(FORMS))
        for line, word in EVERY_KIND:
            self.takes(line, word)

    def test_the_reference_agrees_with_the_other_assembler(self):
        for line, word in EVERY_ROW + EVERY_KIND:
            self.assertEqual(expected(line), [0, word], line)

    def test_every_place_in_every_operand(self):
        for name in ROWS:
            n = 6 if ROWS[name][0] != "R" else 0
            for place in range(32):
                for operands in ({"d": place, "a": 5, "b": 9}, {"d": 18, "a": place, "b": 6},
                                 {"d": 10, "a": 21, "b": place}):
                    line = line_of(name, n=n, **operands)
                    self.assertEqual(answer(line), expected(line), line)
                    self.assertEqual(answer(line)[0], 0, line)

    def test_every_number_of_the_narrow_kinds(self):
        for name in ("xori", "jalr", "sw", "srai", "bge"):
            least, greatest, multiple = LEAST_AND_GREATEST[ROWS[name][0]]
            for n in range(least, greatest + 1, multiple):
                line = line_of(name, 11, 22, 13, n)
                self.takes(line, expected(line)[1])

    def test_every_bit_of_the_wide_kinds(self):
        for place in range(20):
            for n in (1 << place, (1 << place) - 1, 1048575 - (1 << place)):
                self.takes(f"auipc x9, {n}", n << 12 | 9 << 7 | 23)
        for place in range(1, 20):
            for n in (1 << place, -(1 << place), 1048574 - (1 << place)):
                line = f"jal x9, {n}"
                self.assertEqual(answer(line), expected(line), line)
                self.assertEqual(answer(line)[0], 0, line)

    def test_the_answer_is_whole_numbers(self):
        for line in ("lui x0, 0", "jal x31, -2", "no line"):
            for number in answer(line):
                self.assertIs(type(number), int)
        self.assertIs(type(answer("lui x0, 0")), list)


class Reach(Case):
    def test_least_and_greatest_number_of_every_row_and_the_next_beyond(self):
        for name, (kind, *rest) in ROWS.items():
            if kind == "R":
                continue
            least, greatest, multiple = LEAST_AND_GREATEST[kind]
            for n in (least, greatest):
                self.takes(line_of(name, 1, 2, 3, n), expected(line_of(name, 1, 2, 3, n))[1])
            for n in (least - 1, least - multiple, greatest + 1, greatest + multiple):
                self.refuses(line_of(name, 1, 2, 3, n))

    def test_far_beyond(self):
        for name, (kind, *rest) in ROWS.items():
            if kind == "R":
                continue
            for n in (4096, 8192, 2097152, 2147483648, 4294967296, 9999999998):
                if n > LEAST_AND_GREATEST[kind][1]:
                    self.refuses(line_of(name, 1, 2, 3, n))
                if -n < LEAST_AND_GREATEST[kind][0]:
                    self.refuses(line_of(name, 1, 2, 3, -n))

    def test_odd_where_even_is_asked(self):
        for name in ("beq", "bne", "blt", "bge", "bltu", "bgeu", "jal"):
            for n in (-4095, -3, -1, 1, 3, 2047, 4093, "0x1", "0xfff", "0x0B"):
                self.refuses(line_of(name, 1, 2, 3, n))

    def test_odd_where_it_is_not(self):
        self.takes("jalr x1, 1(x2)", 0x001100E7)
        self.takes("lui x1, 1", 0x000010B7)

    def test_hexadecimal_digits_do_not_wrap_round(self):
        for line in ("addi x1, x2, 0xfff", "addi x1, x2, 0xffffffff", "lw x1, 0x800(x2)", "sw x1, 0xFFFFF800(x2)",
                     "beq x1, x2, 0x1ffe", "beq x1, x2, 0xfffffffe", "jal x1, 0xfffffffe", "lui x1, 0x100000",
                     "slli x1, x2, 0x20"):
            self.refuses(line)


class Places(Case):
    def test_first_and_last(self):
        self.takes("add x0, x0, x0", 0x00000033)
        self.takes("add x31, x31, x31", 0x01FF8FB3)

    def test_no_such_place(self):
        for wrong in ("x32", "x33", "x40", "x99", "x100", "x310", "x311", "x00", "x01", "x09", "x031", "x000", "x",
                      "x-1", "x+1", "X1", "1", "0", "y1", "xx1", "x1x", "x1a", "x 1", "x\t1", "x1_", "a0", "sp", "zero",
                      "ra", "x1.", "0x1", "x0x1", "x\xb2", "(x1)", ""):
            self.refuses(f"add {wrong}, x2, x3")
            self.refuses(f"add x1, {wrong}, x3")
            self.refuses(f"add x1, x2, {wrong}")
            self.refuses(f"lw {wrong}, 4(x3)")
            self.refuses(f"lw x1, 4({wrong})")
            self.refuses(f"sw {wrong}, 4(x3)")
            self.refuses(f"beq x1, {wrong}, 4")
            self.refuses(f"jal {wrong}, 4")

    def test_a_place_where_a_number_is_asked_and_the_other_way_about(self):
        for line in ("addi x1, x2, x3", "slli x1, x2, x3", "lui x1, x2", "jal x1, x2", "beq x1, x2, x3",
                     "lw x1, x2(x3)", "sw x1, x2(x3)", "add x1, x2, 3", "lw x1, 4(5)", "addi x1, 2, 3"):
            self.refuses(line)


class Numbers(Case):
    def numbers(self, *texts):
        """Each text as the last operand, at a line's end, and ahead of a bracket."""
        for text in texts:
            yield text, f"lui x1, {text}"
            yield text, f"addi x1, x0, {text}"
            yield text, f"lw x1, {text}(x0)"

    def test_decimal(self):
        for text, line in self.numbers("0", "7", "00", "07", "0000000007", "0000000000", "0000002047", "10", "1023"):
            n = int(text)
            self.takes(line, {"u": n << 12 | 0xB7, "d": n << 20 | 0x93, "w": n << 20 | 0x2083}[line[1]])

    def test_minus(self):
        for n in ("-1", "-2048", "-0000000001", "-0000002048", "-007"):
            bits_of_n = (int(n) & 0xFFF) << 20
            self.takes(f"addi x1, x0, {n}", bits_of_n | 0x93)
            self.takes(f"lw x1, {n}(x0)", bits_of_n | 0x2083)
            self.refuses(f"lui x1, {n}")

    def test_a_minus_before_0(self):
        for zero in ("-0", "-00", "-0000000000"):
            self.takes(f"addi x1, x2, {zero}", 0x00010093)
            self.takes(f"lui x1, {zero}", 0x000000B7)
            self.takes(f"slli x1, x2, {zero}", 0x00011093)
            self.takes(f"jal x1, {zero}", 0x000000EF)

    def test_hexadecimal(self):
        for text, line in self.numbers("0x0", "0x7", "0xa", "0xF", "0x00000000", "0x0000000f", "0x000007fF", "0x7Ab",
                                       "0xc", "0xD", "0xe", "0xB", "0xbE", "0x1", "0x29", "0x345", "0x68"):
            n = int(text, 16)
            self.takes(line, {"u": n << 12 | 0xB7, "d": n << 20 | 0x93, "w": n << 20 | 0x2083}[line[1]])
        self.takes("lui x1, 0xABCDE", 0xABCDE0B7)
        self.takes("lui x1, 0xabcde", 0xABCDE0B7)
        self.takes("lui x1, 0xfedcb", 0xFEDCB0B7)
        self.takes("lui x1, 0x000FFFFF", 0xFFFFF0B7)

    def test_too_many_digits(self):
        for text, line in self.numbers("00000000007", "00000000000", "-00000000007", "-00000000000", "12345678901",
                                       "0x000000007", "0x000000000", "0x00000000a", "0x123456789"):
            self.refuses(line)

    def test_no_number(self):
        for text, line in self.numbers("", "-", "--1", "+1", "-+1", "- 1", "-\t1", "1-", "1-1", "1 1", "0x", "0X1",
                                       "0x-1", "-0x1", "-0x0", "x1", "0x 1", "0 x1", "0xg", "0x1g", "0x1G", "1a", "1x",
                                       "a", "f", "1_0", "1.0", "1e1", "0b1", "0o7", "1h", "0x0x1", "00x1", "0x1x", "1Z",
                                       "0x1.", "'1'", "$1", "#1", "%lo(1)", "\xb2", "1\xb2", "1\xe9", "/1", ":1", "1:",
                                       "0x@", "0x`", "0x/", "0x:", "(1)"):
            self.refuses(line)

    def test_a_letter_or_a_digit_right_behind(self):
        for behind in "aAfFgGxXzZ_":
            self.refuses(f"addi x1, x2, 5{behind}")
            self.refuses(f"addi x1{behind}, x2, 5")
            self.refuses(f"lw x1, 5{behind}(x2)")
            self.refuses(f"lw x1, 5(x2{behind})")
            self.refuses(f"lw x1, 5(x2){behind}")
        for behind in "gGxXzZ_":
            self.refuses(f"addi x1, x2, 0x5{behind}")
        for behind in "0123456789":
            self.refuses(f"addi x1, x2, 0000000000{behind}")
            self.refuses(f"addi x1, x2, 0x00000000{behind}")
            self.refuses(f"add x1, x2, x31{behind}")
            self.refuses(f"add x1, x2, x0{behind}")
            self.refuses(f"lw x1, 5(x2){behind}")


class Blanks(Case):
    def test_where_they_may_stand(self):
        for blank in (" ", "\t", "  ", "\t\t", " \t", "\t \t "):
            self.takes(f"{blank}lw{blank}x1{blank},{blank}-4{blank}({blank}x2{blank}){blank}", 0xFFC12083)
            self.takes(f"{blank}sw{blank}x1{blank},{blank}4{blank}({blank}x2{blank}){blank}", 0x00112223)
            self.takes(f"{blank}add{blank}x1{blank},{blank}x2{blank},{blank}x3{blank}", 0x003100B3)
            self.takes(f"{blank}addi{blank}x1{blank},{blank}x2{blank},{blank}-1{blank}", 0xFFF10093)
            self.takes(f"{blank}lui{blank}x1{blank},{blank}0x1{blank}", 0x000010B7)

    def test_each_place_by_itself(self):
        pieces = ("", "lw", "x1", ",", "-4", "(", "x2", ")", "")
        for blank in (" ", "\t", " \t "):
            for place in range(len(pieces) - 1):
                gaps = ["", " ", "", "", "", "", "", ""]
                gaps[place] = blank
                self.takes("".join(piece + gap for piece, gap in zip(pieces, gaps + [""])), 0xFFC12083)

    def test_none_but_behind_the_name(self):
        self.takes("add x1,x2,x3", 0x003100B3)
        self.takes("add\tx1,x2,x3", 0x003100B3)
        self.takes("lw x1,-4(x2)", 0xFFC12083)
        self.takes("lui x1,1", 0x000010B7)

    def test_none_behind_the_name(self):
        for line in ("addx1, x2, x3", "addix1, x2, -1", "lwx1, -4(x2)", "swx1, 4(x2)", "beqx1, x2, 4", "luix1, 1",
                     "jalx1, 4", "sllix1, x2, 3", "add,x1, x2, x3", "lw(x1), 4", "jal"):
            self.refuses(line)

    def test_inside(self):
        for blank in (" ", "\t"):
            for line in ONE_OF_EACH_KIND:
                for run in re.finditer(r"[a-z]+(?= )|x\d+\b|-?\d+\b|0x[0-9a-fA-F]+", line):
                    for place in range(run.start() + 1, run.end()):
                        self.refuses(line[:place] + blank + line[place:])

    def test_other_white_space(self):
        for other in ("\n", "\r", "\r\n", "\v", "\f", "\0", "\x1c", "\x85", "\xa0"):
            for line in ("add{0} x1, x2, x3", "{0}add x1, x2, x3", "add x1, x2, x3{0}", "add x1,{0}x2, x3",
                         "add{0}x1, x2, x3"):
                self.refuses(line.format(other))


class Lengths(Case):
    def test_blanks_alone(self):
        for count in (0, 1, 2, 254, 255, 256, 300):
            self.refuses(" " * count)
            self.refuses("\t" * count)

    def test_up_to_255_bytes_and_no_more(self):
        for line, word in (("add x1, x2, x3", 0x003100B3), ("lw x1, -4(x2)", 0xFFC12083), ("jal x0, 0", 0x0000006F)):
            for count in (253, 254, 255):
                self.takes(line.ljust(count), word)
                self.takes(line.rjust(count), word)
                self.takes(line.replace(" ", " " * (count - len(line) + 1), 1), word)
            for count in (256, 257, 299, 300):
                self.refuses(line.ljust(count))
                self.refuses(line.rjust(count))
                self.refuses(line.replace(" ", "\t" * (count - len(line) + 1), 1))

    def test_long_lines_of_anything(self):
        for sign in "a,()x0-1\xff":
            for count in (255, 256, 300):
                self.refuses(sign * count)
        self.refuses("add x1, x2, x" + "3" * 240)
        self.refuses("addi x1, x2, " + "0" * 240)


class Wrong(Case):
    def test_no_line(self):
        for line in ("", " ", "\t", ",", "()", "-", "0", "x1", "x1, x2, x3", ", x1", "#", "# add x1, x2, x3"):
            self.refuses(line)

    def test_unknown_names(self):
        for name in ("fence", "ecall", "ebreak", "csrrw", "nop", "mv", "li", "subi", "muli", "addw", "ad", "addd",
                     "addii", "ld", "lwu", "sd", "a", "add.", "add:", "-add", "_add", "1add", "add1", "", "x1", "n"):
            for rest in ("", "x1, x2, x3", "x1, x2, 4", "x1, 4(x2)", "x1, 4"):
                self.refuses(f"{name} {rest}")

    def test_capitals_in_a_name(self):
        for name in ROWS:
            for wrong in {name.upper(), name.capitalize(), name[:-1] + name[-1].upper()}:
                self.refuses(line_of(name).replace(name, wrong, 1))

    def test_the_form_of_another_kind(self):
        alike = ({"R"}, {"I", "H", "B"}, {"M", "S"}, {"U", "J"})
        for name, (kind, *rest) in ROWS.items():
            for other, form in FORMS.items():
                line = f"{name} {form.format(d=1, a=2, b=3, n=4)}"
                fits = any({kind, other} <= kinds for kinds in alike)
                self.assertEqual(answer(line)[0], 0 if fits else -1, line)
                self.assertEqual(answer(line), expected(line), line)

    def test_too_few_or_too_many_operands(self):
        for name in ROWS:
            line = line_of(name, 1, 2, 3, 4)
            self.refuses(name)
            self.refuses(name + " ")
            self.refuses(name + " x1")
            self.refuses(line + ", x1")
            self.refuses(line + ", 4")
            self.refuses(line + " x1")
            self.refuses(line + " 4")
            self.refuses(line + "(x1)")
            self.refuses(line + " " + line)
            self.refuses(line + "," + line)
            self.refuses(line[:line.rindex(",")])

    def test_missing_doubled_and_stray_marks(self):
        for name in ROWS:
            line = line_of(name, 1, 2, 3, 4)
            for place, sign in enumerate(line):
                if sign in ",()":
                    self.refuses(line[:place] + line[place + 1:])
                    self.refuses(line[:place] + " " + line[place + 1:])
                    self.refuses(line[:place] + sign + line[place:])
                    self.refuses(line[:place] + sign + " " + line[place:])
                    for other in ",()".replace(sign, "") + ";.[]{}":
                        self.refuses(line[:place] + other + line[place + 1:])
            for place in range(len(line) + 1):
                for sign in ",()":
                    self.refuses(line[:place] + sign + line[place:])

    def test_brackets(self):
        for line in ("lw x1, (x2)", "lw x1, 4, (x2)", "lw x1, 4,(x2)", "lw x1, 4 x2", "lw x1, 4(x2", "lw x1, 4 x2)",
                     "lw x1, 4()", "lw x1, 4)x2(", "lw x1, 4[x2]", "lw x1, (4)(x2)", "lw (x1), 4(x2)", "lw x1 4(x2)",
                     "lw x1, 4((x2))", "lw x1, 4(x2, x3)", "lw x1, x2(4)", "lw x1, x2", "lw x1, 4", "lw x1, x2, 4",
                     "sw 4(x2), x1", "jalr x1, x2, 4", "jalr x1", "add x1, x2, (x3)", "jal 4", "beq x1, x2, 4(x3)"):
            self.refuses(line)

    def test_bytes_that_belong_nowhere(self):
        belonging = bytes_of("abcdefghijklmnopqrstuvwxyzABCDEF0123456789,() \t-")
        for line in ONE_OF_EACH_KIND:
            right = bytes_of(line)
            for byte in range(256):
                if byte not in belonging:
                    for place in range(len(right) + 1):
                        self.assertEqual(encode(right[:place] + [byte] + right[place:]), [-1])

    def test_every_line_one_byte_away(self):
        for line in ONE_OF_EACH_KIND:
            self.assertEqual(expected(line)[0], 0, line)
            for place in range(len(line) + 1):
                self.assertEqual(answer(line[:place]), expected(line[:place]))
                shorter = line[:place] + line[place + 1:]
                self.assertEqual(answer(shorter), expected(shorter), shorter)
                for byte in range(256):
                    sign = bytes([byte]).decode("latin-1")
                    for changed in (line[:place] + sign + line[place:], line[:place] + sign + line[place + 1:]):
                        self.assertEqual(answer(changed), expected(changed), repr(changed))


class NothingKept(Case):
    LINES = ("lw x1, -4(x2)", "add x1, x2, x3", "addi x1, x2, 4096", "", " \t", "nop", "add x1, x2", " " * 256,
             "lui x1, 0x12345", "\xff\0")

    def test_the_list_handed_in_is_as_it_was(self):
        for line in self.LINES:
            handed = bytes_of(line)
            encode(handed)
            self.assertEqual(handed, bytes_of(line))
            self.assertEqual(encode(Watched(handed)), answer(line))

    def test_a_second_call_answers_as_the_first(self):
        self.assertEqual(answers_again_and_again(self, encode, [(bytes_of(line),) for line in self.LINES]),
                         [expected(line) for line in self.LINES])


if __name__ == "__main__":
    unittest.main()
