import random
import unittest

from checking import BAD_SHAPES, BIG, GOOD_SHAPES, Case
from everyhint.bench import Bench
from everyhint.errors import BadLine, BadName, BadWeights, NameTaken, NothingToUndo
from everyhint.fewer import full_book
from everyhint.games import Game, opposed, two
from everyhint.goals import payoff_range
from everyhint.hints import Hint
from everyhint.notation import book_text, read_bench, read_book, read_game, read_hint, report, text_of
from everyhint.possible import possible_cells, wide_hint
from everyhint.ratios import ratio_text
from sums import DARE, DILEMMA, GAMES, LARGE_GAMES, bets_of, drawn, equal_payoffs, opposite, order

LONG = "1" * 30
# Words that are not integers in decimal notation, or are too long.
BAD_WORDS = ["", "x", "+1", "-0", "00", "01", "-01", "1.0", "1/2", "--1", "-", "1-", "1e3", "0x1", "1_0", "'1'", "~", "1,",
             LONG + "1", "-" + LONG + "1", "0" * 30, "one", "True"]
GAME_TEXT = "game 2 2\n6 6\n2 7\n7 2\n0 0"
HINT_TEXT = "hint 2 2\n2 1 1 0"
BOOK_TEXT = "book\n0 1 0 2\n1 0 1 3"
BENCH_TEXT = "bench\nput dare 2 2\n6 6\n2 7\n7 2\n0 0\nput one 1\n-5"


def spoiled(text, line, old, new):
    """The text with a word of a line, both from 0 on, replaced."""
    lines = text.split("\n")
    words = lines[line].split(" ")
    words[old] = new
    lines[line] = " ".join(words)
    return "\n".join(lines)


def number_places(text):
    """The lines and the places in them, both from 0 on, where integers stand."""
    return [(line, at) for line, words in enumerate(text.split("\n")) for at, word in enumerate(words.split(" "))
            if word.lstrip("-").isdigit()]


class TextCase(Case):
    def bad(self, read, text, line):
        self.fails(BadLine, {"line": line}, read, text)


class TextsTest(TextCase):
    def test_examples_of_the_interface(self):
        self.same_value([text_of(opposed([[1, -1]])), book_text({(1, 0, 1): 3, (0, 1, 0): 2}),
                         read_book("book\n0 0 1 7")],
                        ["game 1 2\n1 -1\n-1 1", "book\n0 1 0 2\n1 0 1 3", {(0, 0, 1): 7}])
        self.bad(read_hint, "hint 2 2\n2 0 4", 2)
        self.same_value(report(two([[(3, 3), (0, 5)], [(5, 0), (1, 1)]])),
                        "0 0 barred\n0 1 barred\n1 0 barred\n1 1 possible\nplayer 0 1 1\nplayer 1 1 1")

    def test_texts_typed_here(self):
        self.same_value([text_of(DARE), text_of(Game([1], [[0]])), text_of(Game((1, 1, 2), [[1, -2, 3], [-1000, 0, 1000]]))],
                        [GAME_TEXT, "game 1\n0", "game 1 1 2\n1 -2 3\n-1000 0 1000"])
        self.same_value([text_of(Hint((2, 2), [4, 2, 2, 0])), text_of(Hint([3], [0, 5000, 0])), text_of(Hint((1, 1, 1), [7]))],
                        [HINT_TEXT, "hint 3\n0 1 0", "hint 1 1 1\n1"])
        self.same_value([book_text({}), book_text({(0, 0, 1): BIG}), book_text({(1, 0, 1): 1, (0, 3, 2): 1, (0, 3, 1): 10})],
                        ["book", f"book\n0 0 1 {BIG}", "book\n0 3 1 10\n0 3 2 1\n1 0 1 1"])
        bench = Bench()
        self.same_value(text_of(bench), "bench")
        bench.put("one", Game([1], [[-5]]))
        bench.put("dare", DARE)
        self.same_value([text_of(bench), text_of(thing=bench), book_text(book={(0, 0, 1): 2})],
                        [BENCH_TEXT, BENCH_TEXT, "book\n0 0 1 2"])

    def test_there_and_back(self):
        for seed, game in enumerate(GAMES):
            found = read_game(text_of(game))
            self.assertEqual([type(found), found], [Game, game])
            hint = wide_hint(game)
            if max(hint.weights()) <= 10 ** 30:
                self.assertEqual([type(read_hint(text_of(hint))), read_hint(text_of(hint))], [Hint, hint])
            chooser = random.Random(seed)
            book = {bet: chooser.randint(1, 1000) for bet in bets_of(game.shape)[::-1] if chooser.random() < 0.5}
            self.same_value(read_book(book_text(book)), {bet: book[bet] for bet in sorted(book)})
        bench = Bench()
        for at, game in enumerate(LARGE_GAMES):
            bench.put("abcdefghijklm"[at] * (1 + at % 8), game)
        found = read_bench(text_of(bench))
        self.assertEqual([type(found), text_of(found), found.names()], [Bench, text_of(bench), bench.names()])
        self.assertEqual([found[name] for name in found.names()], [bench[name] for name in bench.names()])

    def test_numbers_without_end(self):
        huge = 7 ** 12000
        text = text_of(Game([1], [[-huge]]))
        self.same_value([text[:8], len(text)], ["game 1\n-", 8 + 10142])
        self.same_value(len(book_text({(0, 0, 1): huge})), 11 + 10142)
        self.assertEqual(int(text[8:68]), huge // 10 ** (10142 - 60))

    def test_the_order_of_the_keys_makes_no_difference(self):
        for game in LARGE_GAMES[:3]:
            book = full_book(game)
            self.same_value(book_text(dict(reversed(list(book.items())))), book_text(book))


class ReadTest(TextCase):
    def test_names_and_kinds(self):
        self.assertEqual([read_game(text=GAME_TEXT), read_hint(text=HINT_TEXT)], [DARE, Hint((2, 2), [2, 1, 1, 0])])
        self.same_value([read_book(text=BOOK_TEXT), read_bench(text=BENCH_TEXT).names()],
                        [{(0, 1, 0): 2, (1, 0, 1): 3}, ["dare", "one"]])
        read_book(BOOK_TEXT).clear()
        read_bench(BENCH_TEXT).drop("dare")
        self.same_value([read_book(BOOK_TEXT), len(read_bench(BENCH_TEXT))], [{(0, 1, 0): 2, (1, 0, 1): 3}, 2])

    def test_all_shapes(self):
        for shape in GOOD_SHAPES:
            many = len(order(shape))
            head = " ".join(str(each) for each in shape)
            row = " ".join(["-3"] * len(shape))
            self.assertEqual(read_game("\n".join(["game " + head] + [row] * many)), equal_payoffs(tuple(shape), -3))
            self.assertEqual(read_hint("hint " + head + "\n" + " ".join(["9"] * many)), Hint(shape, [1] * many))
            bench = read_bench("\n".join(["bench", "put x " + head] + [row] * many))
            self.assertEqual(bench["x"], equal_payoffs(tuple(shape), -3))

    def test_shapes_that_are_none(self):
        for shape in BAD_SHAPES:
            if isinstance(shape, (list, tuple)) and all(type(each) is int for each in shape):
                head = " ".join([""] + [str(each) for each in shape])
                self.bad(read_game, "game" + head + "\n1 1\n1 1", 1)
                self.bad(read_hint, "hint" + head + "\n1", 1)
                self.bad(read_bench, "bench\nput a" + head + "\n1 1", 2)
        self.bad(read_bench, BENCH_TEXT + "\nput b 5", 9)

    def test_weights_and_orders_that_need_not_be_so(self):
        self.same_value(read_hint("hint 2 2\n4000 2000 2000 0").weights(), [2, 1, 1, 0])
        self.same_value(list(read_book("book\n1 0 1 3\n0 1 0 2")), [(1, 0, 1), (0, 1, 0)])
        self.same_value(text_of(read_bench("bench\nput b 1\n1\nput a 1\n2")), "bench\nput a 1\n2\nput b 1\n1")

    def test_integers_beyond_the_limits(self):
        for word in [LONG, "-" + LONG, "9" * 30, "-1", "0", "1" + "0" * 29]:
            self.same_value([read_game("game 1\n" + word)[(0,)], read_bench("bench\nput a 1\n" + word)["a"][(0,)]],
                            [(int(word),)] * 2)
            self.same_value(read_book(f"book\n{word} {word} -5 7"), {(int(word), int(word), -5): 7})
        self.same_value(read_hint("hint 2\n" + LONG + " 0").weights(), [1, 0])
        self.same_value(read_book(f"book\n0 0 0 {LONG}\n0 0 1 1"), {(0, 0, 0): int(LONG), (0, 0, 1): 1})

    def test_words_that_are_no_integers(self):
        for read, text in [(read_game, GAME_TEXT), (read_hint, HINT_TEXT), (read_book, BOOK_TEXT), (read_bench, BENCH_TEXT)]:
            for line, at in number_places(text):
                for word in BAD_WORDS:
                    self.bad(read, spoiled(text, line, at, word), line + 1)

    def test_spaces_and_empty_lines(self):
        for read, text in [(read_game, GAME_TEXT), (read_hint, HINT_TEXT), (read_book, BOOK_TEXT), (read_bench, BENCH_TEXT)]:
            lines = text.split("\n")
            for at, line in enumerate(lines):
                for wrong in [" " + line, line + " ", line.replace(" ", "  ", 1) if " " in line else "  ", "", " "]:
                    self.bad(read, "\n".join(lines[:at] + [wrong] + lines[at + 1:]), at + 1)
            for more in ["\n", "\n ", "\n\n", "\n0", "\nx"]:
                self.bad(read, text + more, len(lines) + 1)
            self.bad(read, "\n" + text, 1)
            self.bad(read, "", 1)
            self.bad(read, " ", 1)

    def test_a_name_is_no_empty_word(self):
        self.bad(read_bench, "bench\nput  1\n5", 2)
        self.bad(read_bench, "bench\nput  2 2\n6 6\n2 7\n7 2\n0 0", 2)
        self.bad(read_bench, "bench\nput a  1\n5", 2)

    def test_too_many_words_and_too_few(self):
        for read, text in [(read_game, GAME_TEXT), (read_hint, HINT_TEXT), (read_book, BOOK_TEXT)]:
            lines = text.split("\n")
            for at in range(1, len(lines)):
                for wrong in [lines[at] + " 1", lines[at].rsplit(" ", 1)[0], "1"]:
                    self.bad(read, "\n".join(lines[:at] + [wrong] + lines[at + 1:]), at + 1)
        self.bad(read_book, "book 1", 1)
        self.bad(read_bench, "bench 1\nput a 1\n5", 1)
        self.bad(read_bench, "bench\nput a 1\n5 5", 2 + 1)
        self.bad(read_bench, "bench\nput a 1 1\n5", 3)
        self.bad(read_bench, "bench\nput\n5", 2)
        self.bad(read_bench, "bench\nput a\n5", 2)

    def test_other_words(self):
        texts = {read_game: GAME_TEXT, read_hint: HINT_TEXT, read_book: BOOK_TEXT, read_bench: BENCH_TEXT}
        for read in texts:
            for other, text in texts.items():
                if other is not read:
                    self.bad(read, text, 1)
            for word in ["", "Game", "games", "x", "put", "1"]:
                self.bad(read, spoiled(texts[read], 0, 0, word), 1)
        for word in ["", "Put", "puts", "1", "game"]:
            self.bad(read_bench, spoiled(BENCH_TEXT, 1, 0, word), 2)
            self.bad(read_bench, spoiled(BENCH_TEXT, 6, 0, word), 7)

    def test_lines_that_lack_or_are_too_many(self):
        for read, text in [(read_game, GAME_TEXT), (read_hint, HINT_TEXT), (read_bench, BENCH_TEXT)]:
            lines = text.split("\n")
            for many in range(1, len(lines)):
                if read is read_bench and many in [1, 6]:
                    self.assertEqual(len(read_bench("\n".join(lines[:many]))), many // 6)
                else:
                    self.bad(read, "\n".join(lines[:many]), many + 1)
        self.bad(read_game, GAME_TEXT + "\n0 0", 6)
        self.bad(read_hint, HINT_TEXT + "\n2 1 1 0", 3)
        self.bad(read_bench, BENCH_TEXT + "\n5", 9)
        self.bad(read_bench, "bench\n5", 2)
        self.bad(read_bench, "bench\nput a 1\nput b 1\n5", 3)

    def test_the_first_wrong_line_counts(self):
        self.bad(read_game, "game 2 2\n6 6\n2\nx\n0 0\n1", 3)
        self.bad(read_bench, "bench\nput A 1\n5\nput a 1\nx", 5)
        self.bad(read_bench, "bench\nput a 5\nput", 2)
        self.bad(read_book, "book\n0 0 1 0\n0 0 1", 2)

    def test_books(self):
        self.same_value([read_book("book"), read_book("book\n0 0 1 1")], [{}, {(0, 0, 1): 1}])
        self.same_value(read_book("book\n5 7 7 1\n-3 0 -1 1000000"), {(5, 7, 7): 1, (-3, 0, -1): 1000000})
        for amount in ["0", "-1", "-" + LONG]:
            self.bad(read_book, f"book\n0 0 1 1\n0 1 0 {amount}", 3)
        self.bad(read_book, "book\n0 0 1 1\n0 1 0 1\n0 0 1 1", 4)
        self.bad(read_book, "book\n0 0 1 1\n0 0 1 2\n0 0 1 3", 3)
        self.same_value(len(read_book("book\n0 0 1 1\n0 1 0 1\n1 0 1 1\n0 0 2 1")), 4)

    def test_what_the_constructors_and_put_raise(self):
        for weights in ["0 0 0 0", "1 -1 0 0", "-1 -1 -1 -1", f"-{LONG} 1 1 1"]:
            self.fails(BadWeights, {}, read_hint, "hint 2 2\n" + weights)
        self.bad(read_hint, "hint 2 2\n0 0 0 0\n", 3)
        for name in ["A", "ninechars", "1", "a1", "-", "put", "bench", "'", "a_b"]:
            text = f"bench\nput a 1\n1\nput {name} 1\n2"
            if name.isalpha() and name.islower() and len(name) <= 8:
                self.same_value(read_bench(text).names(), ["a", name])
            else:
                self.fails(BadName, {"name": name}, read_bench, text)
        self.fails(NameTaken, {"name": "a"}, read_bench, "bench\nput a 1\n1\nput a 1\n1")
        self.fails(NameTaken, {"name": "a"}, read_bench, "bench\nput a 1\n1\nput a 1\n2\nput B 1\n3")
        self.fails(BadName, {"name": "B"}, read_bench, "bench\nput a 1\n1\nput B 1\n3\nput a 1\n2")
        self.fails(BadName, {"name": "2"}, read_bench, "bench\nput 2 2\n1\n1")
        self.bad(read_bench, "bench\nput B 1\n3\nput a 1\n2\n", 6)

    def test_a_bench_that_is_read_has_no_changes_that_can_be_taken_back(self):
        for text in ["bench", BENCH_TEXT]:
            bench = read_bench(text)
            self.same_value([bench.undos, bench.redos], [0, 0])
            self.fails(NothingToUndo, {}, bench.undo)
            bench.put("new", DARE)
            bench.undo()
            self.same_value([text_of(bench), bench.undos, bench.redos], [text, 0, 1])

    def test_texts_of_any_characters(self):
        chooser = random.Random(147)
        signs = "".join(chr(each) for each in range(32, 127) if each != 37) + "\n" * 20
        for _ in range(300):
            text = "".join(chooser.choice(signs) for _ in range(chooser.randint(0, 40)))
            for read, head in [(read_game, "game 2 2\n"), (read_hint, "hint 2 2\n"), (read_book, "book\n"),
                               (read_bench, "bench\nput a 2 2\n")]:
                self.bad(read, text, 1)
                with self.assertRaises(BadLine):
                    read(head + "x" + text)

    def test_ends_soon_at_the_limits(self):
        with self.ends_within(60):
            lines = [f"0 0 {at} 1" for at in range(1, 1000)]
            text = "book\n" + "\n".join(lines)
            self.same_value([len(text) <= 12000, len(read_book(text))], [True, 999])
            self.bad(read_bench, "bench\n" + "put a 1\n5\n" * 1190, 2382)
            for text in ["1" * 12000, "game " + "1" * 11990, "\n" * 12000, " " * 12000, "book\n" + "9" * 11000]:
                for read in [read_game, read_hint, read_book, read_bench]:
                    with self.assertRaises(BadLine):
                        read(text)


class ReportTest(TextCase):
    def test_reports_of_all_games(self):
        for game in GAMES + [opposite(3, (3, 4), 1000)]:
            found = possible_cells(game)
            lines = [" ".join(str(move) for move in cell) + (" possible" if cell in found else " barred")
                     for cell in order(game.shape)]
            for player in range(game.players):
                least, most = payoff_range(game, player)
                lines.append(f"player {player} {ratio_text(least)} {ratio_text(most)}")
            self.same_value(report(game), "\n".join(lines))

    def test_reports_typed_here(self):
        self.same_value(report(game=DARE), "0 0 possible\n0 1 possible\n1 0 possible\n1 1 possible\n"
                                           "player 0 2 7\nplayer 1 2 7")
        self.same_value(report(Game([3], [[-4], [5], [5]])), "0 barred\n1 possible\n2 possible\nplayer 0 5 5")
        self.same_value(report(opposed([[2, -1, 3], [-1, 1, 4]])),
                        "0 0 possible\n0 1 possible\n0 2 barred\n1 0 possible\n1 1 possible\n1 2 barred\n"
                        "player 0 1/5 1/5\nplayer 1 -1/5 -1/5")
        self.same_value(report(Game((1, 1, 1), [[-1000, 0, 1000]])),
                        "0 0 0 possible\nplayer 0 -1000 -1000\nplayer 1 0 0\nplayer 2 1000 1000")

    def test_ends_soon_at_the_limits(self):
        with self.ends_within(60):
            for game in LARGE_GAMES:
                report(game)
        self.same_value(report(DILEMMA), report(DILEMMA))
        self.assertEqual(len(report(drawn(1, (2, 2, 4), 1000)).split("\n")), 19)


if __name__ == "__main__":
    unittest.main()
