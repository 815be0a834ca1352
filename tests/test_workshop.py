from tests.helpers import ShardCase, chance, drawn
from textshards.certain import decide
from textshards.errors import EmptyText, GrainError, RangeError, ShapeError, TooLarge
from textshards.workshop import Workshop

LARGE = 10 ** 20


def filled(grain, shape, pieces):
    workshop = Workshop(grain, shape)
    for piece in pieces:
        workshop.add(piece)
    return workshop


class WorkshopTest(ShardCase):
    def holds(self, workshop, held, grain, shape, words):
        """All answers are those of decide for the pieces in order."""
        self.same(workshop.held, tuple(held))
        pieces = tuple(piece for _, piece in held)
        for word in words:
            if pieces:
                self.same(workshop.ask(word), decide(pieces, grain, word, shape), (pieces, word))
            else:
                self.fails(GrainError, workshop.ask, word)

    def keeps(self, workshop, error, action, *told):
        """The action raises the error, after which the pieces are as before."""
        held = workshop.held
        self.fails(error, action, *told)
        self.same(workshop.held, held)

    def step(self, source, workshop, held, added, grain):
        """One random edit of the workshop and of the plain list beside it; how many pieces were added so far."""
        if held and source.random() < 0.4:
            number = source.choice(held)[0]
            self.same(workshop.remove(number), None)
            held[:] = [(other, piece) for other, piece in held if other != number]
            self.keeps(workshop, RangeError, workshop.remove, number)
            return added
        piece = drawn(source, "ab", source.randint(grain, grain + 2))
        self.same(workshop.add(piece), added)
        held.append((added, piece))
        return added + 1

    def test_two_workshops_in_turn(self):
        source = chance(1501)
        for shape in ("circle", "line"):
            for grain in (1, 2, 3):
                sides = [[Workshop(grain, shape), [], 0] for _ in range(2)]
                for _ in range(12):
                    for side in sides:
                        if len(side[1]) < 6:
                            side[2] = self.step(source, side[0], side[1], side[2], grain)
                    for workshop, held, _ in sides:
                        self.holds(workshop, held, grain, shape, ("a", "ab", "bab"))

    def test_what_if(self):
        source = chance(1502)
        for shape in ("circle", "line"):
            workshop = Workshop(2, shape)
            pieces = ()
            for _ in range(6):
                held = workshop.held
                for word in ("a", "ba", "abb"):
                    piece = drawn(source, "ab", source.randint(2, 4))
                    expected = decide(pieces + (piece,), 2, word, shape)
                    self.same(workshop.what_if(piece, word), expected)
                    self.same(workshop.held, held)
                self.same(workshop.add(piece), len(pieces))
                pieces = pieces + (piece,)

    def test_numbers_are_not_used_again(self):
        workshop = Workshop(1, "line")
        self.same([workshop.add(piece) for piece in ("a", "b", "a")], [0, 1, 2])
        workshop.remove(2)
        self.same(workshop.add("c"), 3)
        for number in (0, 1, 3):
            workshop.remove(number)
        self.same(workshop.held, ())
        self.same(workshop.add("d"), 4)
        self.same(workshop.held, ((4, "d"),))

    def test_errors_and_what_if_use_no_number_up(self):
        workshop = Workshop(2, "line")
        self.fails(GrainError, workshop.add, "a")
        self.fails(TooLarge, workshop.add, "a" * 61)
        self.fails(GrainError, workshop.what_if, "a", "a")
        workshop.what_if("ab", "a")
        self.fails(EmptyText, workshop.what_if, "ab", "")
        self.same(workshop.add("ab"), 0)

    def test_the_order_of_the_pieces_counts(self):
        workshop = filled(2, "circle", ("abc", "ca", "bca"))
        workshop.remove(0)
        workshop.add("ab")
        self.same(workshop.held, ((1, "ca"), (2, "bca"), (3, "ab")))
        self.same(workshop.ask("abc"), decide(("ca", "bca", "ab"), 2, "abc", "circle"))

    def test_no_pieces(self):
        for shape in ("circle", "line"):
            workshop = Workshop(2, shape)
            self.same(workshop.held, ())
            for word in ("a", "", "a" * 61):
                self.keeps(workshop, GrainError, workshop.ask, word)
            self.same(workshop.what_if("ab", "a"), decide(("ab",), 2, "a", shape))

    def test_wrong_words(self):
        for shape in ("circle", "line"):
            workshop = filled(1, shape, ("ab",))
            self.keeps(workshop, EmptyText, workshop.ask, "")
            self.keeps(workshop, TooLarge, workshop.ask, "a" * 61)
            self.keeps(workshop, EmptyText, workshop.what_if, "b", "")
            self.keeps(workshop, TooLarge, workshop.what_if, "b", "a" * 61)

    def test_wrong_pieces(self):
        for action in ("add", "what_if"):
            for shape in ("circle", "line"):
                workshop = filled(3, shape, ("abc", "bcd"))
                told = () if action == "add" else ("",)
                self.keeps(workshop, GrainError, getattr(workshop, action), "ab", *told)
                self.keeps(workshop, GrainError, getattr(workshop, action), "", *told)
                self.keeps(workshop, TooLarge, getattr(workshop, action), "a" * 61, *told)

    def test_wrong_numbers(self):
        workshop = filled(1, "circle", ("a", "b"))
        workshop.remove(0)
        for number in (0, 2, -1, -2, LARGE, -LARGE):
            self.keeps(workshop, RangeError, workshop.remove, number)

    def test_full_workshops(self):
        for shape, most in (("circle", 40), ("line", 8)):
            workshop = filled(2, shape, ("ab", "ba", "aab") + ("bab",) * (most - 3))
            pieces = tuple(piece for _, piece in workshop.held)
            self.same(len(pieces), most)
            self.same(workshop.ask("bab"), decide(pieces, 2, "bab", shape))
            self.keeps(workshop, TooLarge, workshop.add, "ab")
            self.keeps(workshop, TooLarge, workshop.what_if, "ab", "")
            self.keeps(workshop, GrainError, workshop.add, "a")
            self.keeps(workshop, GrainError, workshop.what_if, "a", "")
            workshop.remove(3)
            self.same(workshop.what_if("ab", "bb")[0], "lacking")
            self.same(workshop.add("ab"), most)
            self.same(len(workshop.held), most)

    def test_wrong_workshops(self):
        for grain in (0, -1, 13, LARGE):
            for shape in ("circle", "line", "ring", ""):
                self.fails(GrainError, Workshop, grain, shape)
        for shape in ("ring", "", "Line", "circle "):
            self.fails(ShapeError, Workshop, 1, shape)
        self.same(Workshop(1, "circle").held, ())
        self.same(Workshop(12, "line").held, ())
