"""Houses: games that go on with one registry, numbered in the order in which they began."""

from fairpatch.blends import Bringer, blends_or_refusal
from fairpatch.errors import InvalidAnswer, InvalidGame, NotAsked, NotLet, TooMany
from fairpatch.machine import Game
from fairpatch.wholes import is_whole_from

MOST_GAMES = 20


class House:
    """Games with one registry."""

    def __init__(self, registry):
        self.registry = registry
        self.begun = []

    def begin(self, store):
        """Begins a game in a store, and returns its number."""
        game = Game(self.registry, store)
        number = len(self.begun)
        if number == MOST_GAMES:
            raise TooMany(number + 1)
        self.begun.append(game)
        return number

    def games(self):
        """The ascending list of the numbers of all games."""
        return list(range(len(self.begun)))

    def has(self, value):
        """Whether any value is the number of a game."""
        return is_whole_from(value, 0, len(self.begun) - 1)

    def game_at(self, game):
        """The Game with a number."""
        if not self.has(game):
            raise InvalidGame(game)
        return self.begun[game]

    def step(self, game, answer=None):
        """Does one step of a game."""
        playing = self.game_at(game)
        asked = playing.asks()[0]
        if asked == "over":
            raise NotAsked()
        if asked == "choose":
            playing.answer(answer)
        elif asked == "turn":
            playing.turn(answer)
        else:
            if answer is not None:
                raise InvalidAnswer(answer)
            playing.go()

    def asks(self, game):
        """What a game asks for."""
        return self.game_at(game).asks()

    def lines(self, game):
        """The list of the lines of a game."""
        return self.game_at(game).lines()

    def store_now(self, game):
        """The store that a game is in."""
        return self.game_at(game).store

    def start_of(self, game):
        """The tuple of the store in which a game began, and the edition of the last unit in which it began."""
        playing = self.game_at(game)
        return playing.began, playing.edition

    def frames(self, game):
        """The list of the tuples (unit, number, place) of all calls that have begun and have not ended."""
        return self.game_at(game).places()

    def unused(self):
        """The list of the tuples (unit, number) of editions that neither stand nor are published nor go on."""
        going = {}
        for playing in self.begun:
            for unit, number, _ in playing.frames():
                going[(unit, number)] = True
        found = []
        for unit in self.registry.units:
            for number, _ in self.registry.editions(unit):
                if number not in (0, self.registry.standing(unit)) and (unit, number) not in going:
                    found.append((unit, number))
        return found

    def move(self, game, number, place):
        """Lets the last call of a game go on in an edition of its unit, at a place there, if this is let by."""
        playing = self.game_at(game)
        playing.check_move(number, place)
        unit, elder, spot = playing.places()[-1]
        registry = self.registry
        registry.ground.told_below([registry.body_at(unit, elder), registry.body_at(unit, number)])
        near = Bringer(registry.site_at(unit, number).outset_at(place))
        far = Bringer(registry.site_at(unit, elder).outset_at(spot))
        found = blends_or_refusal(near, far)
        if isinstance(found, tuple):
            pick, payoff, table = found
            raise NotLet(playing.store, pick, payoff, table)
        playing.move(number, place)
