"""The interface: each name in the file under which the document lists it, each listed method in its own class."""

import importlib
import inspect

from helpers import Case, defaults_of

NAMES = {
    "signs": "Weights", "rules": "Rule", "books": "Book", "rows": "Row", "machines": "Machine",
    "games": "Game Alone Some Every Duel Shared Sides", "plain": "met is_won", "ledgers": "ledger_of shows_won",
    "images": "led_into stuck image within", "stands": "stand_at next_stand passes stands",
    "tables": "look Look Right Wrong", "lookers": "shows_right shows_wrong", "least": "Size Least Parted least sizes",
    "parted": "shows_least shows_parted",
    "kept": "kept Keeping Kept Leaves shows_kept look_among RightAmong WrongAmong shows_right_among shows_wrong_among",
    "compare": "alike Likeness Alike Unlike shows_alike shows_unlike fewer needless fewest Fewest outcomes",
    "players": "Player Seer Mover Leftmost Numbered Perfect contest winner", "ways": "way shows_way",
    "counts": "count remainder place_of row_at", "lengths": "Lengths lengths_of",
    "texts": "write_book write_machine write_game write_ledger",
    "reader": "read_book read_machine read_game read_ledger read", "desk": "Desk",
    "errors": """GameError BadInput NoAnswer BadSigns BadRow BadRule BadBook Heavier Unlessened BadMove BadMachine BadGame
        BadSeat OtherSigns BadNumber BadText BadLine TooMany NoMove NotWon NotRight NotKept NotThere NothingPlayed"""}
GAME = "book_of judge reads __neg__ renamed __eq__"
METHODS = {
    "signs.Weights": "__init__ of signs __len__ __contains__ __getitem__ __eq__ __call__ place rows renamed",
    "rules.Rule": "__init__ fits places __call__ __neg__ __mul__ __rmul__ __eq__ __str__ read LONGEST",
    "books.Book": """__init__ of MOST longest __len__ __getitem__ __contains__ __eq__ __call__ finished led_to led __add__
        __sub__ __or__ __neg__ renamed""",
    "rows.Row": """__init__ text weight played __getitem__ __setitem__ __iadd__ __len__ __contains__ __str__ __eq__ moves
        play back trial tried""",
    "machines.Machine": """__init__ signs steps told __len__ __getitem__ state step __contains__ __invert__ __and__ __or__
        __xor__ __sub__ __le__ __lt__ __ge__ __gt__ __eq__ __bool__ least first rows turned renamed every none just having
        counting modulo""",
    "games.Game": GAME, "games.Some": GAME + " __init__", "games.Every": GAME + " __init__",
    "games.Shared": GAME + " __init__", "games.Sides": GAME + " __init__",
    "tables.Look": "__bool__ __eq__", "tables.Right": "__bool__ __eq__", "tables.Wrong": "__bool__ __eq__",
    "least.Size": "__bool__ MOST", "least.Least": "__init__ __bool__", "least.Parted": "__init__ __bool__",
    "kept.Keeping": "__bool__", "kept.Kept": "__bool__", "kept.Leaves": "__bool__",
    "kept.RightAmong": "__bool__ __eq__", "kept.WrongAmong": "__bool__ __eq__",
    "compare.Likeness": "__bool__", "compare.Alike": "__bool__", "compare.Unlike": "__bool__", "compare.Fewest": "__len__",
    "players.Player": "__init__", "players.Seer": "__init__ winning all_winning", "players.Mover": "chosen __call__",
    "players.Leftmost": "chosen __call__", "players.Numbered": "__init__ chosen __call__",
    "players.Perfect": "winning all_winning chosen __call__",
    "lengths.Lengths": """__init__ LONGEST lead period answers __contains__ __bool__ __eq__ __invert__ __and__ __or__
        __sub__ __xor__ __le__ first up_to from_on""",
    "desk.Desk": "__init__ say __call__ run __len__ names"}
PARAMETERS = {
    "compare.alike": "one machines other *most", "compare.shows_alike": "one machines other shown table",
    "compare.shows_unlike": "one machines other shown row seat bounds", "compare.fewer": "game choice",
    "compare.needless": "game machines *most", "compare.fewest": "game machines *most", "compare.outcomes": "game machines",
    "players.contest": "game row players *begins", "players.winner": "game row players *begins",
    "ways.way": "game machine row", "ways.shows_way": "game row moves", "counts.count": "machine n",
    "counts.remainder": "machine n modulus", "counts.place_of": "machine row", "counts.row_at": "machine k",
    "lengths.lengths_of": "machine *every *most", "texts.write_book": "book", "texts.write_machine": "machine",
    "texts.write_game": "game", "texts.write_ledger": "ledger weights", "reader.read": "text", "reader.read_book": "text",
    "reader.read_machine": "text", "reader.read_game": "text", "reader.read_ledger": "text",
    "plain.met": "game row seat *most", "plain.is_won": "game row seat *most", "ledgers.ledger_of": "game row seat *most",
    "ledgers.shows_won": "game row seat won ledger", "stands.passes": "game machines stand seat",
    "stands.stands": "game machines *most", "tables.look": "game machines *most", "images.within": "game *most",
    "lookers.shows_right": "game machines table", "lookers.shows_wrong": "game machines row seat bounds",
    "parted.shows_least": "game machines table members endings",
    "parted.shows_parted": "game seat beginnings endings ledger", "kept.kept": "book machine *most",
    "kept.shows_kept": "book machine table", "kept.look_among": "game among machines *most",
    "kept.shows_right_among": "game among machines table kept",
    "kept.shows_wrong_among": "game among machines row seat bounds kept", "images.led_into": "book machine *most", "images.stuck": "book *most", "images.image": "game machines *most",
    "stands.stand_at": "game machines row", "stands.next_stand": "game machines stand sign",
    "least.least": "game most *rows *stands", "least.sizes": "game most *rows *stands"}


def found_at(path):
    module, name = path.split(".")
    return getattr(importlib.import_module(f"rowgames.{module}"), name)


class TestInterface(Case):
    def test_each_name_in_its_file(self):
        for module, names in NAMES.items():
            for name in names.split():
                self.same(found_at(f"{module}.{name}").__module__, f"rowgames.{module}")

    def test_each_method_in_its_class(self):
        for path, names in METHODS.items():
            self.assertLessEqual(set(names.split()), set(vars(found_at(path))), path)

    def test_names_of_parameters(self):
        for path, names in PARAMETERS.items():
            told = inspect.signature(found_at(path)).parameters.values()
            self.same(" ".join("*" * (one.kind is one.KEYWORD_ONLY) + one.name for one in told), names)

    def test_default_values(self):
        known = {"most": 2000, "rows": 2000, "stands": 2000, "every": False, "begins": 0, "seat": 0}
        for path in PARAMETERS:
            for name, value in defaults_of(found_at(path)).items():
                self.same(value, known[name])
            named = [name[1:] for name in PARAMETERS[path].split() if name.startswith("*")]
            self.assertLessEqual(set(named), set(defaults_of(found_at(path))))
