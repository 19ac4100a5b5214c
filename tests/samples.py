"""Values that several tests use."""

from nearseats.books import Book

PAIR = ("book\nroom Oak 1\nroom Elm 1\nfamily c 2 : Oak Elm\nfamily d 1 : Oak | Elm\n"
        "order Oak : c.1 d.1 c.2\norder Elm : d.1 c.2 c.1\nend\n")

# One value of each kind that an argument of any value may have, none of them a name of any book.
ODD_VALUES = (None, True, False, -1, 0, 1, 5, "", "-", "c.1", "Pine", "Oak ", (), ("Oak",), [], ["Oak"], {},
              {"Oak": 1}, (1, [2, {"a": None}]), Book([], [], []), [[[[[[]]]]]])


def pair_book():
    return Book.read(PAIR)
