"""Audits and reckonings of games, and pictures of houses from which they go on."""

from fairpatch.blends import Bringer
from fairpatch.checks import checked_counts
from fairpatch.errors import InvalidLines, PatchError, TooGreat, TooMany, TooRich
from fairpatch.going import Retelling, answers_with, numbers_with, places_with
from fairpatch.grounds import Ground, Site
from fairpatch.house import MOST_GAMES, House
from fairpatch.records import record_of, retold
from fairpatch.registry import are_strings, blocks_of, read_registry
from fairpatch.stands import is_paper_between, is_paper_over, is_yes, paper_between
from fairpatch.wholes import read_whole
from fairpatch.worth import Worths, check_payoff


def retelling_of(house, record):
    """A Retelling of a record of a game of a house that is about to begin."""
    registry = house.registry
    flows = {(unit, number): registry.flow_at(unit, number) for unit, number, _ in record[1]}
    return Retelling(registry.units[-1], record[0], flows)


def audit(house, game):
    """The record of a game, with the papers of its editions and of its moves."""
    record = record_of(house, game)
    registry = house.registry
    retelling = retelling_of(house, record)
    retelling.takes_all(record[2])
    papers = [registry.paper(unit, number) for unit, number, _ in record[1]]
    moves = []
    for unit, elder, spot, number, place in retelling.moves_told:
        near = Bringer(registry.site_at(unit, number).outset_at(place))
        far = Bringer(registry.site_at(unit, elder).outset_at(spot))
        moves.append(paper_between(near, far))
    return record, papers, moves


def are_edition_papers(ground, editions, papers):
    """Whether the items of a list are papers for editions, None for published ones."""
    for (unit, number, body), paper in zip(editions, papers):
        if number == 0:
            if paper is not None:
                return False
        elif not is_yes(paper) or not is_paper_over(ground.new_site(unit, body), paper):
            return False
    return True


def are_move_papers(ground, editions, moves_told, papers):
    """Whether the items of a list are papers for moves, which are told as a Retelling keeps them."""
    moved = {(unit, number): True for unit, elder, _, new, _ in moves_told for number in (elder, new)}
    sites = {(unit, number): Site(ground, unit, body) for unit, number, body in editions if (unit, number) in moved}
    for (unit, elder, spot, number, place), paper in zip(moves_told, papers):
        near = Bringer(sites[(unit, number)].outset_at(place))
        far = Bringer(sites[(unit, elder)].outset_at(spot))
        if not is_yes(paper) or not is_paper_between(near, far, paper):
            return False
    return True


def is_audit(system, value):
    """Whether any value is a record of a system, with papers that begin with "yes" for its editions and its moves."""
    counts = checked_counts(system)
    if not isinstance(value, tuple) or len(value) != 3:
        return False
    record, papers, moves = value
    retelling = retold(system, counts, record)
    if retelling is None or not isinstance(papers, (list, tuple)) or not isinstance(moves, (list, tuple)):
        return False
    if len(papers) != len(record[1]) or len(moves) != len(retelling.moves_told):
        return False
    ground = Ground(system)
    try:
        if not are_edition_papers(ground, record[1], papers):
            return False
        return are_move_papers(ground, record[1], retelling.moves_told, moves)
    except (TooMany, TooGreat, TooRich):
        return False


def reckoning(house, game, payoff):
    """The worth that a game had when it began, and then what each line of its record has changed of it."""
    record = record_of(house, game)
    check_payoff(house, payoff)
    retelling = retelling_of(house, record)
    worths = Worths(house.registry, payoff)
    retelling.begins_with(record[2][0])
    now = worths.worth_of(retelling.game.frames(), retelling.game.store)
    found = [now]
    for line in record[2][1:]:
        retelling.takes(line)
        ahead = now
        now = worths.worth_of(retelling.game.frames(), retelling.game.store)
        found.append(now - ahead)
    return found


def picture(house):
    """The lines of the registry of a house, and of all its games."""
    lines = list(house.registry.lines())
    for game in house.games():
        store, _, told = record_of(house, game)
        lines.append(f"game {game} from {store}")
        lines.extend(told)
    return lines


def stand_as_told(registry, unit, line):
    """Makes the edition stand in which a line tells that a call of a unit begins; whether it tells one."""
    for number in numbers_with(f"call {unit}", line):
        registry.stand(unit, number)
        return True
    return False


def does_line(house, game, line):
    """Whether a line of a game is one that can come next; if so, this is done in the house."""
    asked = house.asks(game)
    frames = house.frames(game)
    if frames and line.startswith("move "):
        unit = frames[-1][0]
        for number in numbers_with(f"move {unit}", line):
            text = line[len(f"move {unit} {number} "):]
            flow = house.registry.flow_at(unit, number)
            for place in places_with(flow, house.store_now(game), text):
                house.move(game, number, place)
                return True
        return False
    if asked[0] == "call":
        if stand_as_told(house.registry, asked[1], line):
            house.step(game)
            return True
        return False
    for answer in answers_with(asked, line):
        house.step(game, answer)
        return True
    return False


def begins_game(house, head, line):
    """Whether two lines tell the next game and its first call; if so, it begins in the house."""
    store = read_whole(head.split(" ")[-1])
    if store is None or not stand_as_told(house.registry, house.registry.units[-1], line):
        return False
    house.begin(store)
    return True


def takes_games(house, blocks):
    """Whether lists of lines tell games, one behind the other; if so, they are played in the house."""
    if len(blocks) > MOST_GAMES:
        return False
    for game, block in enumerate(blocks):
        if len(block) < 2 or not begins_game(house, block[0], block[1]):
            return False
        for line in block[2:]:
            if not does_line(house, game, line):
                return False
    return True


def house_with(lines):
    """The House of which strings are the picture, or None; raises an error of the package for some that are none."""
    blocks = blocks_of(lines, ("game",))
    house = House(read_registry(blocks[0]))
    registry = house.registry
    standing = [(unit, registry.standing(unit)) for unit in registry.units]
    if not takes_games(house, blocks[1:]):
        return None
    # calls have begun in what stood then, but the lines of the registry tell what stands now
    for unit, number in standing:
        registry.stand(unit, number)
    if picture(house) != list(lines):
        return None
    return house


def go_on(lines):
    """A house with a picture, and a registry of its own."""
    house = None
    if are_strings(lines):
        try:
            house = house_with(lines)
        except PatchError:
            house = None
    if house is None:
        raise InvalidLines(lines)
    return house
