"""The sessions of the interface, line by line: what is printed, or which error is raised with which attributes."""

import ast
import unittest

from fairpatch import errors

SESSIONS = {
    "hulls": r"""
>>> from fairpatch.hulls import corners, shares_in
>>> from fairpatch.lots import is_lot, mean, mixed, sure
>>> from fairpatch.ratios import Ratio
>>> half = Ratio(-3, -6)
>>> [half.top, half.bottom, str(half - 2), str(half.over(Ratio(3, 4))), half.below(1), 1 - half == half]
[1, 2, '-3/2', '2/3', True, True]
>>> [sure(3, 2), is_lot(3, (2, 0, 4)), mixed([(1, 0, 0), (0, 1, 1)], [1, 2]), str(mean((1, 0, 2), [6, 1, -1]))]
[(0, 0, 1), False, (1, 1, 1), '4/3']
>>> corners([(1, 1, 0), (0, 1, 0), (1, 0, 0), (0, 1, 0)])
[(0, 1, 0), (1, 0, 0)]
>>> [str(share) for share in shares_in([(1, 0, 0), (0, 1, 1)], (2, 1, 1))]
['1/2', '1/2']
""",
    "spaces": r"""
>>> from fairpatch.spaces import Space, is_word
>>> space = Space([("hp", 3), ("gold", 2)])
>>> [len(space), space.names, space.stores(), "gold" in space, is_word("draw"), is_word("drawn")]
[6, (('hp', 3), ('gold', 2)), [0, 1, 2, 3, 4, 5], True, False, True]
>>> [space.values_of(3), space.store_of({"gold": 0, "hp": 2}), space.value_of(5, "hp"), space.size_of("gold")]
[{'hp': 1, 'gold': 1}, 4, 2, 2]
>>> [space.with_value(3, "hp", 5), space.with_value(3, "gold", -2), space == Space((("hp", 3), ("gold", 2)))]
[5, 2, True]
""",
    "texts": r"""
>>> from fairpatch.texts import is_tree, read_system, write_system
>>> system = read_system("name hp 3 unit roll { draw hp 0 by 1 2 by 3 } unit game { while [hp = 0] and [yes] { call roll } }")
>>> [system[0], system[1][0]]
[(('hp', 3),), ('roll', (('draw', 'hp', ((0, 1), (2, 3))),))]
>>> system[1][1][1][0][1]
('and', ('same', ('name', 'hp'), ('num', 0)), ('yes',))
>>> write_system(read_system("name a 2 unit b{if a+1<2{set a=(a+1)*2}else{}}"))
'name a 2\nunit b {\n  if a + 1 < 2 {\n    set a = (a + 1) * 2\n  } else {\n  }\n}'
>>> [is_tree(system), is_tree((system[0], list(system[1]))), is_tree(((("a", 2),), (("b", ()),)))]
[True, False, True]
>>> read_system("name hp 3\nunit game { set hp = }")
raises NoSystem(2, 22)
>>> read_system("name a 2 unit b { set a = (a) }")
raises NoSystem(1, 29)
>>> read_system("name a 2 unit b { set a = (((((a")
raises NoSystem(1, 31)
""",
    "checks": r"""
>>> from fairpatch.checks import calls_of, check_system, is_fair, space_of, statements, with_body
>>> roll = ("roll", (("draw", "hp", ((0, 1), (1, 2))),))
>>> game = ("game", (("choose", (("go", (("call", "roll"),)), ("stay", ()))), ("set", "hp", ("num", 1))))
>>> system = ((("hp", 2),), (roll, game))
>>> [check_system(system), len(space_of(system)), calls_of(system, "game"), calls_of(system, "roll")]
[None, 2, ['roll'], []]
>>> [path for path, statement in statements(system, "game")]
[(0,), (0, 0, 0), (1,)]
>>> [with_body(system, "game", ())[1][1], is_fair(system), is_fair((system[0], (game, roll)))]
[('game', ()), True, False]
>>> with_body(system, "roll", (("call", "game"),))
raises NotFair('call', 'roll', 'game')
>>> check_system(((("hp", 3), ("gold", 3)), ()))
raises InvalidSystem(((('hp', 3), ('gold', 3)), ()))
""",
    "plain": r"""
>>> from fairpatch.plain import play
>>> roll = ("roll", (("draw", "hp", ((0, 1), (3, 2))),))
>>> again = ("while", ("less", ("name", "hp"), ("num", 2)), (("call", "roll"),))
>>> flee = ("flee", (("set", "hp", ("-", ("name", "hp"), ("num", 3))),))
>>> game = ("game", (("choose", (("strike", (("call", "roll"),)), flee)), again))
>>> system = ((("hp", 4),), (roll, game))
>>> play(system, 1, ["strike", 0, 2], 9)
(['choose strike', 'call roll', 'turn 0 of 3', 'back roll', 'loop', 'call roll', 'turn 2 of 3', 'back roll', 'back game'], 3)
>>> play(system, 1, ["flee", "never taken"], 2000)
(['choose flee', 'back game'], 2)
>>> play(system, 0, ["strike", 0], 5)
(['choose strike', 'call roll', 'turn 0 of 3', 'back roll', 'loop'], None)
>>> [play(system, 2, [], 2000), play(system, 2, ["flee", 1], 1)]
[([], None), (['choose flee'], None)]
>>> play(system, 2, ["strike", 3], 2000)
raises InvalidAnswer(['strike', 3])
""",
    "webs": r"""
>>> from fairpatch.webs import web
>>> heal = ("set", "hp", ("+", ("name", "hp"), ("num", 1)))
>>> turn = ("choose", (("risk", (("call", "roll"),)), ("heal", (heal,))))
>>> roll = ("roll", (("draw", "hp", ((0, 1), (2, 3))),))
>>> system = ((("hp", 3),), (roll, ("game", (("while", ("less", ("name", "hp"), ("num", 2)), (turn,)),))))
>>> game = web(system, "game", {"roll": [[(1, 0, 3, 0)], [(1, 0, 3, 0)], [(1, 0, 3, 0)]]})
>>> [web(system, "roll", {}).moves(((0,), 1)), game.first(0), game.first(2), game.never]
[[[(0, 1), (2, 3)]], ((0,), 0), 2, 3]
>>> [game.moves(((0, 0, 0), 0)), game.moves(((0, 0, 0, 0, 0), 1))]
[[[(((0, 0, 0, 0, 0), 0), 1)], [(((0,), 1), 1)]], [[(2, 3), (((0,), 0), 1)]]]
>>> [game.rows_from(1)[:3], game.stays_from(0), game.behind(((0, 0, 0, 0, 0), 0), 1)]
[[((0,), 0), ((0,), 1), ((0, 0, 0), 0)], [], ((0,), 1)]
""",
    "forward": r"""
>>> from fairpatch.forward import best, brought, corners_of, is_brought, summary, table
>>> from fairpatch.picks import lot_by, picks
>>> roll = ("roll", (("draw", "hp", ((0, 1), (2, 3))),))
>>> game = ("game", (("choose", (("risk", (("call", "roll"),)), ("wait", (("while", ("yes",), ()),)))),))
>>> system = ((("hp", 3),), (roll, game))
>>> told = {"roll": summary(system, "roll")}
>>> [told["roll"][0], picks(system, "game", 1, told), lot_by(system, "game", 1, told, (1,))]
[[(1, 0, 3, 0)], [(0,), (1,)], (0, 0, 0, 1)]
>>> [corners_of(system, "game", 1, told), brought(system, "game", 1, told, (1, 0, 3, 0))]
[[(0, 0, 0, 1), (1, 0, 3, 0)], [(1, (0,))]]
>>> is_brought(system, "game", 1, told, (1, 0, 3, 4), [(2, (0,)), (2, (1,))])
True
>>> [str(best(system, "game", 1, told, [0, 0, 4, 1])), [str(one[1]) for one in table(system, "game", 1, told, [0, 0, 4, 1])]]
['3', ['3', '3', '1']]
""",
    "stands": r"""
>>> from fairpatch.ratios import Ratio
>>> from fairpatch.stands import is_paper_for, paper_for, stands_at, stands_for
>>> from fairpatch.webs import web
>>> pick = ("choose", (("low", (("set", "hp", ("num", 0)),)), ("high", (("set", "hp", ("num", 1)),))))
>>> coin, names = ("draw", "hp", ((0, 1), (1, 3))), (("hp", 2),)
>>> free, fair = (names, (("roll", (pick,)),)), (names, (("roll", (coin,)),))
>>> [stands_for(free, "roll", (coin,)), stands_for(free, "roll", ()), paper_for(fair, "roll", (pick,))[:2]]
[True, True, ('no', 0)]
>>> [[lot for lot, blend in part] for part in paper_for(free, "roll", ())[1]]
[[(1, 0, 0)], [(0, 1, 0)]]
>>> is_paper_for(free, "roll", (coin,), ("yes", [[((1, 3, 0), [(3, (1,)), (1, (0,))])]] * 2))
True
>>> [is_paper_for(fair, "roll", (pick,), ("no", 1, (0,), [1, 0, 0], [(((0,), 1), n)])) for n in [0, Ratio(1, 4), 1]]
[False, True, False]
>>> net = web(free, "roll", {})
>>> [stands_at(net, 1, net, ((0,), 0)), stands_at(net, ((0,), 0), net, 1)]
[True, False]
""",
    "code": r"""
>>> from fairpatch.code import is_code, lines_of, read_code
>>> from fairpatch.compiler import compiled, row_numbers
>>> from fairpatch.running import answered, question, settled
>>> from fairpatch.spaces import Space
>>> loop = ("while", ("less", ("name", "hp"), ("num", 2)), (("draw", "hp", ((1, 1), (2, 2))),))
>>> body = (loop, ("set", "hp", ("-", ("name", "hp"), ("num", 3))))
>>> system = ((("hp", 3),), (("game", ()),))
>>> code = compiled(system, "game", body)
>>> lines_of(code)[:7]
['load hp', 'push 2', 'less', 'unless 7', 'loop', 'draw hp 1 by 1 2 by 2', 'go 0']
>>> [lines_of(code)[7:], code.heights[:4], code.ranks[5:8], read_code(lines_of(code)) == code]
[['load hp', 'push 3', 'take', 'save hp', 'back'], (0, 1, 2, 1), (0, 9, 4), True]
>>> [row_numbers(system, "game", body), question(code, 5), is_code([("go", 0), ("back",)])]
[[((0,), 4), ((0, 0, 0), 5)], ('turn', 3), False]
>>> space = Space([("hp", 3)])
>>> [settled(space, code, 0, 0), answered(space, code, 5, 0, 0), answered(space, code, 5, 0, 1)]
[(4, 0), (4, 1), (11, 2)]
""",
    "machine": r"""
>>> from fairpatch.machine import Game, Shelf
>>> from fairpatch.texts import read_system
>>> system = read_system("name hp 3 unit roll { draw hp 0 by 1 2 by 3 } unit game { while hp < 2 { call roll } }")
>>> shelf = Shelf(system)
>>> game = Game(shelf, 0)
>>> [game.asks(), game.go(), game.asks(), game.go(), game.asks()]
[('loop',), None, ('call', 'roll'), None, ('turn', 4)]
>>> [shelf.exchange("roll", (("set", "hp", ("num", 2)),)), shelf.standing("roll"), game.turn(0), game.asks()]
[1, 1, None, ('back', 'roll')]
>>> [game.go(), game.asks(), game.go(), game.go(), game.asks(), [frame[:2] for frame in game.frames()]]
[None, ('loop',), None, None, ('back', 'roll'), [('game', 0), ('roll', 1)]]
>>> [game.go(), game.asks(), game.go(), game.asks(), game.is_over, game.frames()]
[None, ('back', 'game'), None, ('over', 2), True, []]
>>> game.lines()
['loop', 'call roll 0', 'turn 0 of 4', 'back roll', 'loop', 'call roll 1', 'back roll', 'back game']
""",
    "registry": r"""
>>> from fairpatch.registry import Registry, read_registry
>>> from fairpatch.texts import read_system
>>> text = "name hp 2 unit roll { choose low { set hp = 0 } or high { set hp = 1 } } unit game { call roll }"
>>> registry = Registry(read_system(text))
>>> body = (("draw", "hp", ((0, 1), (1, 1))),)
>>> [registry.exchange("roll", body), registry.standing("roll"), registry.paper("roll", 0), registry.paper("roll", 1)[0]]
[1, 1, None, 'yes']
>>> [registry.exchange("roll", registry.body_at("roll", 0)), registry.exchange("roll", body)]
[0, 1]
>>> registry.lines()[11:]
['edition 1', 'unit roll {', '  draw hp 0 by 1 1 by 1', '}', 'stand roll 1', 'stand game 0']
>>> read_registry(registry.lines()) == registry
True
>>> registry.exchange("game", (("while", ("yes",), ()),))
raises NotLet(store=0, pick=())
""",
    "house": r"""
>>> from fairpatch.house import House
>>> from fairpatch.registry import Registry
>>> from fairpatch.texts import read_system
>>> system = read_system("name hp 3 unit game { while hp < 2 { choose up { set hp = hp + 1 } or wait { } } }")
>>> registry = Registry(system)
>>> house = House(registry)
>>> [house.begin(0), house.begin(2), house.step(0), house.step(0, "wait"), house.asks(1), house.frames(0)]
[0, 1, None, None, ('back', 'game'), [('game', 0, ((0,), 0))]]
>>> loop = (("while", system[1][0][1][0][1], (("set", "hp", ("+", ("name", "hp"), ("num", 1))),)),)
>>> [registry.exchange("game", loop), house.frames(0), house.move(0, 1, ((0,), 0)), house.lines(0)]
[1, [('game', 0, ((0,), 0))], None, ['loop', 'choose wait', 'move game 1 0']]
>>> [registry.stand("game", 0), house.unused(), house.step(0), house.step(0), house.step(0), house.asks(0), house.unused()]
[None, [], None, None, None, ('over', 2), [('game', 1)]]
>>> house.move(1, 1, ((0,), 2))
raises InvalidRow(((0,), 2))
""",
    "worth": r"""
>>> from fairpatch.house import House
>>> from fairpatch.registry import Registry
>>> from fairpatch.texts import read_system
>>> from fairpatch.worth import is_bound, is_worth_paper, worth, worth_paper
>>> house = House(Registry(read_system("name hp 2 unit game { draw hp 0 by 1 1 by 1 }")))
>>> game = house.begin(0)
>>> paper = worth_paper(house, game, [0, 2, 0])
>>> [worth(house, game, [0, 2, 0]) == 1, paper[1][0][1], paper[1][0][0][0][1] == 1]
[True, [(((0,), 0), 0)], True]
>>> [is_worth_paper(house, game, [0, 2, 0], paper), is_bound(house, game, [0, 2, 0], (2, [[(((0,), 0), 2)]]))]
[True, True]
>>> house.step(game, 1)
>>> worth(house, game, [0, 2, 0]) == 2
True
""",
    "pictures": r"""
>>> from fairpatch.house import House
>>> from fairpatch.pictures import audit, go_on, is_audit, picture, reckoning
>>> from fairpatch.records import record_of, replay
>>> from fairpatch.registry import Registry
>>> from fairpatch.texts import read_system
>>> text = "name hp 3 unit roll { choose low { set hp = 0 } or high { set hp = 2 } } unit game { call roll }"
>>> system, body = read_system(text), (("draw", "hp", ((0, 1), (2, 3))),)
>>> house = House(Registry(system))
>>> [house.begin(1), house.registry.exchange("roll", body), house.step(0), house.step(0, 3)]
[0, 1, None, None]
>>> record = record_of(house, 0)
>>> [record[0], [edition[:2] for edition in record[1]], record[2]]
[1, [('roll', 1), ('game', 0)], ['call game 0', 'call roll 1', 'turn 3 of 4']]
>>> replay(system, record)
(('back', 'roll'), 2, [('game', 0, ((0,), 1)), ('roll', 1, 2)])
>>> [str(number) for number in reckoning(house, 0, [0, 0, 8, 0])]
['8', '-2', '2']
>>> [picture(house)[-4:], picture(go_on(picture(house))) == picture(house), is_audit(system, audit(house, 0))]
[['game 0 from 1', 'call game 0', 'call roll 1', 'turn 3 of 4'], True, True]
""",
    "odds": r"""
>>> from fairpatch.odds import Guide, best_plan, corner_picks, lot_of_plan, loss, odds
>>> right = (("draw", "hp", ((0, 1), (2, 1))),)
>>> dodge = ("dodge", (("choose", (("left", (("set", "hp", ("num", 0)),)), ("right", right))),))
>>> again = ("if", ("same", ("name", "hp"), ("num", 0)), (("call", "dodge"),), ())
>>> system = ((("hp", 3),), (dodge, ("game", (("call", "dodge"), again))))
>>> [(str(least), str(most)) for least, most in odds(system, 1)]
[('1/4', '1'), ('0', '0'), ('0', '3/4'), ('0', '0')]
>>> corner_picks(system)
{'dodge': [[(0,), (1,)], [(0,), (1,)], [(0,), (1,)]]}
>>> number, pick, table = best_plan(system, 1, [0, 0, 4, 1])
>>> [str(number), pick, [(row, str(one)) for row, one in table]]
['3', (1, 1), [(((0,), 1), '3'), (((1, 0, 0), 0), '2')]]
>>> lot_of_plan(system, 1, (pick, corner_picks(system)))
(1, 0, 3, 0)
>>> guide = Guide(system, 1, ((0, 1), corner_picks(system)))
>>> [guide.label_for([]), guide.label_for(["left"]), guide.label_for(["right"]), guide.label_for(["right", 1])]
['left', 'right', None, None]
>>> [str(one) for one in loss(system, "dodge", (("set", "hp", ("num", 0)),), [0, 0, 4, 1])]
['3', '3', '3']
""",
    "improve": r"""
>>> from fairpatch.improve import can_end, course_of, improved_system, is_step, stores_at
>>> from fairpatch.texts import read_system
>>> roll = "name hp 3 unit roll { draw hp 0 by 1 2 by 1 set hp = hp * 0 } "
>>> rules = read_system(roll + "unit game { call roll if hp < 1 { choose a { } or b { } } else { set hp = 2 } }")
>>> [can_end(rules, "roll"), stores_at(rules, "game")]
[[[0], [0], [0]], [((0,), [0, 1, 2]), ((1,), [0]), ((1, 0, 0), [0]), ((1, 1, 0), [])]]
>>> [step[:2] for step in course_of(rules, "roll")]
[((1,), 'folded'), ((0,), 'lost')]
>>> improved_system(rules)[1]
(('roll', (('set', 'hp', ('num', 0)),)), ('game', (('call', 'roll'),)))
>>> is_step(rules, "roll", ((0,), "lost", rules[1][0][1][1:]))
False
""",
    "desk": r"""
>>> from fairpatch.desk import Desk, read_desk
>>> desk = Desk()
>>> rules = "name hp 2 unit roll { choose low { set hp = 0 } or high { set hp = 1 } } unit game { call roll }"
>>> [desk.lay("club", rules), desk.tables(), desk.house_of("club").begin(1)]
[None, ['club'], 0]
>>> fair = "name hp 2 unit roll { draw hp 0 by 1 1 by 1 } unit game { call roll }"
>>> [desk.preview("club", fair)[0][1][0], desk.patch("club", fair), desk.patch("club", fair)]
['yes', [('roll', 1)], []]
>>> desk.text("club")
'name hp 2\nunit roll {\n  draw hp 0 by 1 1 by 1\n}\nunit game {\n  call roll\n}'
>>> [desk.twin("club", "den"), desk.undo("club"), desk.patch("den", rules), desk.lines()[-2:]]
[None, None, [('roll', 0)], ['patch roll 0', 'patch roll 1']]
>>> [desk.house_of("den").games(), read_desk(desk.lines()) == desk, len(desk), "den" in desk]
[[0], True, 2, True]
>>> desk.patch("club", "name hp 3 unit roll { } unit game { }")
raises InvalidSystem(((('hp', 3),), (('roll', ()), ('game', ()))))
""",
}


class ExampleTests(unittest.TestCase):
    def judge(self, code, told, names):
        """Runs a line, and compares what it tells with what the interface tells."""
        if told.startswith("raises "):
            call = ast.parse(told[len("raises "):], mode="eval").body
            with self.assertRaises(getattr(errors, call.func.id)) as caught:
                exec(code, names)
            attributes = vars(caught.exception)
            given = [ast.literal_eval(one) for one in call.args]
            named = {one.arg: ast.literal_eval(one.value) for one in call.keywords}
            self.assertEqual(list(attributes.values())[:len(given)], given)
            self.assertEqual({name: attributes[name] for name in named}, named)
            self.assertTrue(named or len(attributes) == len(given))
        elif told:
            self.assertEqual(repr(eval(code, names)), told)
        else:
            exec(code, names)

    def test_sessions(self):
        for module, session in SESSIONS.items():
            names = {}
            for step in session.strip().split(">>> ")[1:]:
                code, _, told = step.partition("\n")
                with self.subTest(module=module, code=code):
                    self.judge(code, told.strip(), names)


if __name__ == "__main__":
    unittest.main()
