"""Choosing: which rules of the books of a game stay.

A choice is a tuple with an ascending tuple for each seat: the indexes of the rules that stay.
"""

from rowgames.books import Book
from rowgames.games import Every, Shared, Sides, Some
from rowgames.letters import is_from_to


def whole_choice(game):
    """The choice of all rules."""
    return tuple([tuple(range(len(book))) for book in game.books])


def without(game, seat, index):
    """The choice of all rules but one."""
    choice = list(whole_choice(game))
    choice[seat] = tuple([other for other in choice[seat] if other != index])
    return tuple(choice)


def is_choice(game, value):
    """Whether any value is a choice of the rules of a game."""
    if not isinstance(value, tuple) or len(value) != game.seats:
        return False
    return all([are_indexes(len(book), stay) for book, stay in zip(game.books, value)])


def are_indexes(many, value):
    """Whether any value is an ascending tuple of indexes of so many rules."""
    if not isinstance(value, tuple) or not all([is_from_to(index, 0, many - 1) for index in value]):
        return False
    return all([one < other for one, other in zip(value, value[1:])])


def game_of_choice(game, choice):
    """The game of the same class, goal and last whose books have the rules of a choice alone."""
    books = [chosen_book(book, stay) for book, stay in zip(game.books, choice)]
    if isinstance(game, Some):
        return Some(books[0], game.goal)
    if isinstance(game, Every):
        return Every(books[0], game.goal)
    if isinstance(game, Shared):
        return Shared(books[0], last=game.last)
    return Sides(books[0], books[1], last=game.last)


def chosen_book(book, stay):
    """The book of the rules with these indexes."""
    return Book.of(book.weights, [book.rules[index] for index in stay])


def choices_in_order(game):
    """All choices, by how many rules stay and then as tuples. There are up to ten rules of a seat."""
    # The indexes are figures and a comma is ahead of them: so texts are in order as tuples are.
    texts = [""]
    for at, book in enumerate(game.books):
        gap = "," if at > 0 else ""
        texts = [text + gap + stay for text in texts for stay in texts_of_stays(len(book))]
    texts = sorted(sorted(texts, key=str), key=len)
    return [choice_of_text(text) for text in texts]


def texts_of_stays(many):
    """For each choice of so many indexes these as figures, ascending."""
    texts = [""]
    for index in range(many):
        texts = texts + [f"{text}{index}" for text in texts]
    return texts


def choice_of_text(text):
    """The choice with this text."""
    return tuple([tuple([int(figure) for figure in stay]) for stay in text.split(",")])
