"""Over the whole document: the four functions agree, and stand as the interface has them."""
import contextlib
import inspect
import io
import unittest

from oneinstruction import words
from oneinstruction.words import decode, encode, fields, step
from reference import (
    EVERY_KIND, EVERY_ROW, ROWS, edge_operands, line_of, one_bit_away, some_instructions, some_words, word_by_bits,
)

NAMES = list(ROWS)
REGISTERS = [0x9E3779B9 * (place + 3) % 2**32 for place in range(32)]
PC = 0x00400008
LOADS_AND_STORES = range(10, 18)


def instructions():
    found = [word for line, word in EVERY_ROW + EVERY_KIND] + some_instructions(4500)
    for name in NAMES:
        found += [word_by_bits(name, *operands) for operands in edge_operands(name)]
    return found


class Agreement(unittest.TestCase):
    def test_line_and_word_and_fields(self):
        rows = set()
        for word in instructions():
            length, *line = decode(word, 64)
            row, d, a, b, n = fields(word)
            self.assertEqual(length, len(line))
            self.assertEqual(bytes(line).decode("ascii"), line_of(NAMES[row], d, a, b, n))
            self.assertEqual(encode(line), [0, word])
            rows.add(row)
        self.assertEqual(rows, set(range(45)))

    def test_step_and_fields(self):
        for word in instructions():
            row, d, a, b, n = fields(word)
            answer = step(PC, word, REGISTERS)
            if row in LOADS_AND_STORES:
                self.assertEqual(answer, [-2], hex(word))
                continue
            self.assertEqual(answer[0], 0, hex(word))
            self.assertEqual(len(answer), 34)
            changed = [place for place in range(32) if answer[1 + place] != REGISTERS[place]]
            self.assertIn(changed, ([], [d]), hex(word))
            self.assertNotIn(0, changed)
            ways = [PC + 4]
            if NAMES[row] == "jal":
                ways = [PC + n]
            elif NAMES[row] == "jalr":
                ways = [((REGISTERS[a] if a else 0) + n) % 2**32 & ~1]
            elif ROWS[NAMES[row]][0] == "B":
                ways = [PC + 4, PC + n]
            self.assertIn(answer[33], ways, hex(word))

    def test_a_step_by_the_line_is_one_by_the_word(self):
        for line, word in EVERY_ROW + EVERY_KIND:
            again = encode(decode(word, 64)[1:])[1]
            self.assertEqual(step(PC, again, REGISTERS), step(PC, word, REGISTERS), line)

    def test_all_refuse_the_same_words(self):
        words_tried = some_words(4000) + [0, 4294967295]
        for name in NAMES:
            words_tried += one_bit_away(word_by_bits(name, 9, 22, 5, 0))
        refused = 0
        for word in words_tried:
            none = [decode(word, 64) == [-1], fields(word) == [-1], step(PC, word, REGISTERS) == [-1]]
            self.assertIn(none, ([True] * 3, [False] * 3), hex(word))
            refused += none[0]
        self.assertTrue(1000 < refused < len(words_tried) - 100)

    def test_a_few_steps_in_turn(self):
        # The sum of 1 to 10, by a loop.
        program = ["addi x1, x0, 10", "addi x2, x0, 0", "add x2, x2, x1", "addi x1, x1, -1", "bne x1, x0, -8",
                   "jalr x0, 0(x5)"]
        registers = [0] * 32
        registers[5] = 1001
        pc = 400
        turns = 0
        while pc != 1000:
            zero, *registers, pc = step(pc, encode(list(program[(pc - 400) // 4].encode()))[1], registers)
            self.assertEqual(zero, 0)
            turns += 1
        self.assertEqual((registers[1], registers[2], turns), (0, 55, 2 + 3 * 10 + 1))


class Interface(unittest.TestCase):
    def test_names_and_arguments(self):
        for name, arguments in (("encode", ["line"]), ("decode", ["word", "most"]), ("fields", ["word"]),
                                ("step", ["pc", "word", "registers"])):
            found = inspect.signature(getattr(words, name)).parameters
            self.assertEqual(list(found), arguments)
            for parameter in found.values():
                self.assertIs(parameter.default, parameter.empty)

    def test_nothing_is_printed(self):
        out, err = io.StringIO(), io.StringIO()
        with contextlib.redirect_stdout(out), contextlib.redirect_stderr(err):
            for word in [0] + [word for line, word in EVERY_ROW]:
                encode(decode(word, 64)[1:])
                fields(word)
                step(PC, word, list(REGISTERS))
        self.assertEqual((out.getvalue(), err.getvalue()), ("", ""))


if __name__ == "__main__":
    unittest.main()
