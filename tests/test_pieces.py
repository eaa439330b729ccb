"""Files as pieces: points 3.3 to 3.6 and 3.12."""

import random
import unittest

from lethe import pieces
from lethe.errors import BadForm, Full, NotAllowed
from lethe.pieces import check_file, piece_blocks, read_files, rest_blocks
from tests.plain import SIGNS, Case, plain_files, plain_pieces, plain_rest

BLANK = " " * 64
# Names of files whose first pieces have the same home and the same rank.
EQUAL_NAMES = ("tkr88", "yvuuj")
WRONG_NAMES = ["", "a" * 13, "A", "a b", " a", "a/", "a.b", "a_b", "a:", "~", "`", "{", "@", "map ", "-A"]


class TestCheckFile(Case):
    def test_constants(self):
        self.assertEqual((pieces.PIECE, pieces.MAX_DATA, pieces.MAX_CELLS), (40, 4000, 400))
        self.assertEqual((pieces.HOME_CELLS, pieces.VAULT_CELLS), (192, 352))

    def test_allowed(self):
        for name in ["a", "z", "0", "9", "-", "a" * 12, "abcdefghijkl", "mnopqrstuvwx", "yz0123456789", "g-words"]:
            for data in ["", "x", SIGNS, "d" * 4000]:
                self.assertIsNone(check_file(name, data))

    def test_not_allowed(self):
        for name in WRONG_NAMES:
            self.fails(NotAllowed, check_file, name, "")
            self.fails(NotAllowed, piece_blocks, name, "")
            self.fails(NotAllowed, rest_blocks, 1, 5, {name: ""})
        for data in ["d" * 4001, "d" * 5000]:
            self.fails(NotAllowed, check_file, "a", data)
            self.fails(NotAllowed, piece_blocks, "a", data)
            self.fails(NotAllowed, rest_blocks, 1, 400, {"a": data})

    def test_each_sign_of_a_name(self):
        for sign in SIGNS:
            if sign in "abcdefghijklmnopqrstuvwxyz0123456789-":
                self.assertIsNone(check_file("a" + sign, ""))
            else:
                self.fails(NotAllowed, check_file, "a" + sign, "")


class TestPieceBlocks(Case):
    def test_example(self):
        self.assertIs(piece_blocks("map", "ab c") == [("map/000", "03map00004ab c" + " " * 50)], True)

    def test_by_hand(self):
        rows = piece_blocks("abcdefghijkl", "x" * 40 + "y")
        self.assertEqual(rows, [("abcdefghijkl/000", "12abcdefghijkl00040" + "x" * 40 + " " * 5),
                                ("abcdefghijkl/001", "12abcdefghijkl00101y" + " " * 44)])
        self.assertEqual(piece_blocks("9", ""), [("9/000", "01900000" + " " * 56)])

    def test_lengths(self):
        for length, count in [(0, 1), (1, 1), (39, 1), (40, 1), (41, 2), (79, 2), (80, 2), (81, 3), (3999, 100),
                              (4000, 100)]:
            data = "".join(SIGNS[k % len(SIGNS)] for k in range(length))
            rows = piece_blocks("a-file", data)
            self.assertEqual(len(rows), count)
            self.assertEqual(rows, plain_pieces({"a-file": data}))
            self.assertTrue(all(len(block) == 64 for _, block in rows))
            self.assertEqual(rows[-1][0], f"a-file/{count - 1:03d}")


class TestRestBlocks(Case):
    def test_no_files(self):
        for cells in [1, 2, 400]:
            self.assertEqual(rest_blocks(3, cells, {}), [BLANK] * (1 + 2 * cells))

    def test_limits_of_the_cells(self):
        for cells in [0, -1, 401, 4096, 4097]:
            for files in [{}, {"": ""}, {"a": "d" * 4001}, {"a": ""}]:
                self.fails(NotAllowed, rest_blocks, 3, cells, files)

    def test_many_disks(self):
        choice = random.Random(16)
        for seed in range(60):
            files = {}
            for name in choice.sample(["a", "map", "words", "log", "x-1", "0", EQUAL_NAMES[0], EQUAL_NAMES[1]], 5):
                files[name] = "".join(choice.choices(SIGNS, k=choice.choice([0, 1, 40, 41, 100])))
            given = dict(files)
            for cells in [len(plain_pieces(files)), 20, 64]:
                expected = plain_rest(seed, cells, files)
                self.assertEqual(rest_blocks(seed, cells, files), expected)
                backwards = {name: files[name] for name in reversed(files)}
                self.assertEqual(rest_blocks(seed, cells, backwards), expected)
                self.assertEqual(read_files(seed, cells, expected), files)
            self.assertEqual((files, list(files)), (given, list(given)))

    def test_equal_coins(self):
        for seed in range(5):
            for names in [EQUAL_NAMES, EQUAL_NAMES[::-1]]:
                blocks = rest_blocks(seed, 2, dict.fromkeys(names, "x"))
                self.assertEqual(blocks, plain_rest(seed, 2, dict.fromkeys(names, "x")))

    def test_as_many_pieces_as_cells_and_one_more(self):
        for cells in [1, 2, 5, 100, 192, 352, 400]:
            files = {}
            for k in range(cells // 100):
                files[f"f{k}"] = "d" * 4000
            for k in range(cells % 100):
                files[f"g{k}"] = ""
            blocks = rest_blocks(4, cells, files)
            self.assertNotIn(BLANK, blocks[1:cells + 1])
            self.assertEqual(read_files(4, cells, blocks), files)
            self.fails(Full, rest_blocks, 4, cells, {**files, "one-more": ""})
            self.fails(NotAllowed, rest_blocks, 4, cells, {**files, "one-more": "", "": ""})
            self.fails(NotAllowed, rest_blocks, 4, cells, {**files, "one-more": "", "~": ""})
            self.fails(NotAllowed, rest_blocks, 4, cells, {**files, "a": "", "one-more": "d" * 4001})

    def test_returned_lists_and_dicts_are_new(self):
        files = {"a": "1"}
        blocks = rest_blocks(4, 3, files)
        given = list(blocks)
        blocks_again = rest_blocks(4, 3, files)
        blocks_again.clear()
        read = read_files(4, 3, blocks)
        read["b"] = "2"
        self.assertEqual(blocks, given)
        self.assertEqual(read_files(4, 3, blocks), files)
        self.assertEqual(files, {"a": "1"})


class TestReadFiles(Case):
    FILES = {"a1": "x" * 41, "a": "", "map": "0;", "m-1": "12345"}

    def check_blocks(self, seed, cells, blocks):
        given = list(blocks)
        files = plain_files(seed, cells, blocks)
        if files is None:
            self.fails(BadForm, read_files, seed, cells, blocks)
        else:
            self.assertEqual(read_files(seed, cells, blocks), files)
        self.assertEqual(blocks, given)
        return files is not None

    def test_limits_of_the_cells(self):
        for cells in [0, -1, 401, 500]:
            for blocks in [[], [BLANK], [BLANK] * (1 + 2 * abs(cells))]:
                self.fails(NotAllowed, read_files, 1, cells, blocks)

    def test_numbers_of_blocks(self):
        for cells in [1, 7, 400]:
            self.assertEqual(read_files(1, cells, [BLANK] * (1 + 2 * cells)), {})
            for count in [0, 1, cells, 2 * cells, 2 * cells + 2, 2 * cells + 3]:
                self.fails(BadForm, read_files, 1, cells, [BLANK] * count)

    def test_each_character_changed(self):
        good = 0
        blocks = plain_rest(5, 8, self.FILES)
        for index in range(len(blocks)):
            for at in range(64):
                for sign in " 01a9f":
                    if sign != blocks[index][at]:
                        near = list(blocks)
                        near[index] = near[index][:at] + sign + near[index][at + 1:]
                        good += self.check_blocks(5, 8, near)
        self.assertGreater(good, 100)

    def test_blocks_of_other_lengths(self):
        blocks = plain_rest(5, 8, self.FILES)
        for index in range(len(blocks)):
            for block in ["", blocks[index][:63], blocks[index] + " ", blocks[index].rstrip(), blocks[index][:5]]:
                near = list(blocks)
                near[index] = block
                if near != blocks:
                    self.fails(BadForm, read_files, 5, 8, near)

    def test_blocks_exchanged_doubled_and_blank(self):
        blocks = plain_rest(5, 8, self.FILES)
        for first in range(len(blocks)):
            for second in range(len(blocks)):
                exchanged = list(blocks)
                exchanged[first], exchanged[second] = exchanged[second], exchanged[first]
                self.assertIs(self.check_blocks(5, 8, exchanged), exchanged == blocks)
                doubled = list(blocks)
                doubled[second] = blocks[first]
                self.check_blocks(5, 8, doubled)
            self.check_blocks(5, 8, blocks[:first] + [BLANK] + blocks[first + 1:])
            self.fails(BadForm, read_files, 5, 8, blocks[:first] + blocks[first + 1:])
            self.fails(BadForm, read_files, 5, 8, blocks[:first] + blocks[first:first + 1] + blocks[first:])

    def test_header_and_journal(self):
        blocks = plain_rest(5, 8, self.FILES)
        for index in [0] + list(range(9, 17)):
            for block in [" " * 63 + "1", "f" + " " * 63, blocks[3], "x" * 64]:
                near = list(blocks)
                near[index] = block
                if near != blocks:
                    self.fails(BadForm, read_files, 5, 8, near)

    def at_rest_but(self, *shown):
        """Return the blocks of a disk of one cell for each of some blocks, in every order."""
        cells = len(shown)
        for turn in range(cells):
            yield cells, [BLANK] + list(shown[turn:] + shown[:turn]) + [BLANK] * cells

    def test_pieces_that_no_file_has(self):
        full = "x" * 40
        for texts in [["00a00000"], ["01A00000"], ["01a00100"], ["01a00001"], ["0100000"], ["01a00041" + "x" * 41],
                      ["13abcdefghijklm00000"], ["01a00039" + "x" * 39, "01a00101y"], ["01a00040" + full],
                      ["01a00040" + full, "01a00100"], ["01a00040" + full, "01a00202xx"], ["01a00000x"],
                      ["01a0000"], ["01a0000x"], ["x1a00000"], ["1 a00000"], ["01a 0000"], ["f"], ["99a00000"],
                      ["01a00000", "01a00000"], ["01a00040" + full, "01a00040" + full]]:
            for cells, blocks in self.at_rest_but(*[text.ljust(64) for text in texts]):
                for seed in range(4):
                    # The second one is a file whose data is a space.
                    good = texts in (["01a00040" + full], ["01a00001"])
                    self.assertIs(self.check_blocks(seed, cells, blocks), good)

    def test_too_much_data(self):
        rows = plain_pieces({"a": "d" * 4000})
        rows.append(("a/100", "01a10001d" + " " * 55))
        blocks = [BLANK] + [block for _, block in rows] + [BLANK] * 101
        self.fails(BadForm, read_files, 1, 101, blocks)
        self.assertIsNone(plain_files(1, 101, blocks))

    def test_pieces_that_would_need_more_cells(self):
        blocks = [BLANK] + ["01a00045" + "x" * 45 + " " * 11] + [BLANK]
        self.fails(BadForm, read_files, 1, 1, blocks)

    def test_another_seed_and_another_number_of_cells(self):
        blocks = plain_rest(5, 8, self.FILES)
        self.assertIs(self.check_blocks(5, 8, blocks), True)
        self.assertIs(self.check_blocks(6, 8, blocks), False)
        self.fails(BadForm, read_files, 5, 7, blocks)
        self.fails(BadForm, read_files, 5, 9, blocks)


if __name__ == "__main__":
    unittest.main()
