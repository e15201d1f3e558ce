"""The form of the package: the rules of LANGUAGE.md that a short program can check, and the interface."""

import ast
import builtins
import pathlib
import unittest

ROOT = pathlib.Path(__file__).resolve().parent.parent / "lightsout"
FILES = sorted(ROOT.glob("*.py"))
LIBRARY = {
    "heapq": {"heappush", "heappop", "heapify", "heapreplace", "heappushpop"},
    "math": {"gcd", "lcm", "isqrt", "comb", "perm", "factorial"},
    "itertools": {"product", "combinations", "permutations"},
}
BUILTINS = set(
    "len range enumerate zip min max sum abs sorted reversed int str bool list tuple dict set isinstance ord repr any "
    "all divmod Exception ValueError TypeError KeyError IndexError LookupError ZeroDivisionError ArithmeticError "
    "OverflowError RuntimeError NotImplementedError AttributeError StopIteration super type staticmethod classmethod "
    "property True False None NotImplemented".split())
METHODS = set(
    "append clear copy count endswith extend find get index insert isalnum isalpha isdigit islower isspace isupper "
    "items join keys ljust lower lstrip partition pop remove replace reverse rfind rjust rpartition rsplit rstrip "
    "setdefault split splitlines startswith strip update upper values zfill bit_length".split())
BARRED = set("register mro elements open input law version_info with_traceback add_note attrgetter breakpoint builtins "
             "compile copyright credits delattr dir eval exec exit gc getattr globals hasattr help id importlib "
             "license locals methodcaller os quit setattr super type vars sys".split())
VIEWS = {"range", "zip", "enumerate", "reversed"}
EATERS = {"list", "tuple", "dict", "sorted", "sum", "any", "all", "enumerate", "zip", "min", "max", "reversed",
          "permutations", "combinations", "product"}
INTERFACE = {
    "errors": "LightError InvalidHouse InvalidGuest InvalidPlan InvalidStory InvalidLot InvalidOrder InvalidSensor "
              "InvalidLog InvalidText InvalidSize InvalidCommand Refused NoName",
    "guests": "Kind:read,text,__eq__ first_place(number) place_key(place) placed(places) step(house,kinds,row,place) "
              "is_still(house,kinds,place)",
    "hands": "all_pairs(pairs) cover_pairs(pairs) rows_along(many,pairs) order_of_cut(many,cut) "
             "least_hands(many,pairs) widest_lot(many,pairs) hand_waits(many,pairs,chains)",
    "house": "House:read,text,number_of_part,number_of_door,number_of_cell,far_end,doors_at,cells_in,with_kept,__eq__ "
             "first_row(house) is_row(house,value)",
    "plans": "Plan:read,text,__eq__ asked_empty(told) deed(house,row,places,told) "
             "World:read,text,with_plan,with_house,__eq__",
    "programs": "answers_of(deed) least_form(kind) is_one(kind,other) one_pairs(kind,other) answers_apart(kind,other) "
                "can_do(kind,deed)",
    "single": "places_behind(house,kinds,place) guest_places(house,kinds,number) guest_way(house,kinds,number,place) "
              "guest_strays(house,kinds,number) guest_out(house,kinds,place) guest_ranks(house,kinds,number) "
              "guest_traps(house,kinds,number) alone(house,kinds,number,row)",
    "views": "where_behind(house,deeds) outline(house) core_house(house) matching(one,other) told_apart(one,other) "
             "ways_apart(house,parts) ways_hold(house,parts,value) closers(house,parts) needful_doors(house,part) "
             "held_within(house,parts) may_go(house,parts) dark_orders(house) first_cut(house,order) "
             "cut_off(house,order)",
    "apart": "house_apart(kind,other) alike_lot(kind,other) is_apart(kind,other,house,answers)",
    "faces": "Inner:start,comes_next Face:text,__eq__ face(inner,deeds,turns,most) least(machine)",
    "grace": "Grace:spots_after,longest,is_longest,is_ring,tried,is_ages,least_waits,cheapest,needless,play_tale,"
             "endless,is_endless",
    "lots": "guest_moves(house,kinds,caps,row,places) first_standing(world,caps) moves(world,caps,standing) "
            "fewer(world,caps,standing) Lots:way,story",
    "stage": "Stage:first,bare,may,play,twin,exchange,alike,least_alike,core,needs",
    "bells": "log_told(world,sensors,story) tally_groups(house,doors) tallied(house,doors,counts)",
    "checker": "sheet_holds(world,kind,question,value) wrong_sheets(world,sheets)",
    "closed": "closed_paper(world,caps,harm) closed_holds(world,caps,paper,harm)",
    "ends": "out_of(world,standing,place,caps) shut_in(world,part,caps) outs(world,part,caps) "
            "for_ever(world,part,caps) drains(world,part,caps) with_so_many(world,caps,part)",
    "facewords": "same_face(one,other) holds(machine,state,sentence) same_words(one,other)",
    "least": "most_needed(world,story) numbered(world,story) least_guests(world,harm)",
    "orders": "in_row(world,row) safe_order(world,pairs) order_paper(world,pairs) order_story(world,pairs) "
              "order_passes(world,pairs) order_paper_holds(world,pairs,value) order_story_holds(world,pairs,value) "
              "needful_pairs(world,pairs) least_orders(world) must_keep(world,pairs) least_cuts(world)",
    "swaps": "inner_of(world,name,gate_in,gate_out) exchanged_in(world,inner)",
    "traces": "trace(world,story,guest) is_seen(world,kind,text) story_for(world,kind,text)",
    "books": "Book:put,knows,first_deeds",
    "desk": "Desk:say",
    "harms": "Verdict:is_like Least:is_like Meeting:is_like harm_names(world) comes_with(world,harm,caps) "
             "check_verdict(world,harm,caps,value) least_kinds(world,harm) least_deeds(world,harm) "
             "check_least(world,harm,of,value) harms_meet(world,one,other) check_meeting(world,one,other,value) "
             "only_behind(world,harm,other) check_behind(world,harm,other,value)",
    "kept": "keepings(house) kept_world(world,keeping) never_off(world) telling(world,kinds,keeping) "
            "is_good(world,kinds,keeping) good_keepings(world,kinds) least_good(world,kinds) gap(world,kinds) "
            "telling_paper(world,kinds,keeping) telling_holds(world,kinds,keeping,value) "
            "calm_paper(world,kinds,keeping) calm_holds(world,kinds,keeping,value)",
    "repair": "Repair:changed,verdict,least_changes,harmed_changes,spare,drain_cuts,is_drain_cuts",
    "surely": "stretch(world,sensors,starts) fits(world,sensors,log) clash_at(world,sensors,log) "
              "surely(world,sensors,log,saying,is_so) sure_holds(world,sensors,log,saying,is_so,value) "
              "sure_for_ever(world,sensors,log,saying,is_so) good_entries(world,sensors) "
              "bad_story(world,sensors,at,entry) undecided(world,sensors,saying,many) "
              "least_sensors(world,choice,saying,many)",
    "anew": "Anew:one_fall,falls,once,good_once,ever,is_closed,good_ever,play_falls",
    "stairs": "Stairs:is_like is_above(vector,other) is_below(vector,caps) least_numbers(world,harm) "
              "check_stairs(world,harm,value)",
    "live": "Live:read,put_in,take_out,turn,keep,write,undo,trying,__len__,__str__",
}
# The parameters of the methods whose points name some; the others take none.
METHOD_ARGUMENTS = {
    "Grace": "__init__(world,times) spots_after(spot,done) longest(part) is_longest(part,number,heights) "
             "is_ring(part,ring) tried(waits) is_ages(waits,ages) least_waits() cheapest(prices) needless() "
             "play_tale(entries,waits) endless() is_endless(entries,loops)",
    "Lots": "__init__(world,caps,bound,is_short) way(number) story(harm)",
    "Stage": "__init__(world) first() bare(standing) may(standing) play(story) twin(story,guest) exchange(story,at) "
             "alike(story) least_alike(story) core(story) needs(story)",
    "Live": "__init__(world) put_in(at,deed) take_out(at) turn(door) keep(cell) write(kind,at,row) undo() "
            "trying(work)",
    "Book": "__init__(world) put(sheet) knows(claim,question) first_deeds(sheet,many)",
    "Desk": "__init__() say(command)",
    "Verdict": "__init__(whats,paper) is_like(other)",
    "Least": "__init__(lots,whats,barred,papers) is_like(other)",
    "Meeting": "__init__(whats,both,paper) is_like(other)",
    "Stairs": "__init__(vectors,tales,corners,papers) is_like(other)",
    "Repair": "__init__(world) changed(change) verdict(change) least_changes(deeds,most) harmed_changes(deeds,most) "
              "spare() drain_cuts(points) is_drain_cuts(points,least,greatest)",
    "Anew": "__init__(world) one_fall(row,mark) falls() once(marks) good_once() ever(marks) "
            "is_closed(marks,standings) good_ever() play_falls(marks,entries)",
}


def parse(path):
    tree = ast.parse(path.read_text())
    for node in ast.walk(tree):
        for child in ast.iter_child_nodes(node):
            child.above = node
    return tree


TREES = {path.stem: parse(path) for path in FILES}


def nodes(*kinds):
    for name, tree in TREES.items():
        for node in ast.walk(tree):
            if isinstance(node, kinds):
                yield name, node


def called(node):
    return node.func.id if isinstance(node, ast.Call) and isinstance(node.func, ast.Name) else None


def bound(tree):
    """The names of the classes and the imports of a file."""
    names = [alias.name for node in ast.walk(tree) if isinstance(node, ast.ImportFrom) for alias in node.names]
    return names, [node.name for node in tree.body if isinstance(node, ast.ClassDef)]


def locals_of(tree):
    """All names of parameters, variables and nested functions."""
    for node in ast.walk(tree):
        if isinstance(node, ast.arg):
            yield node, node.arg
        if isinstance(node, ast.Name) and isinstance(node.ctx, (ast.Store, ast.Del)):
            yield node, node.id
        if isinstance(node, ast.FunctionDef) and isinstance(node.above, ast.FunctionDef):
            yield node, node.name


class Form(unittest.TestCase):
    def none(self, rows):
        self.assertEqual([], sorted(rows))

    def test_files(self):
        self.none(str(path) for path in ROOT.iterdir() if path.suffix != ".py" and path.name != "__pycache__")
        for path in FILES:
            text = path.read_text()
            self.assertTrue(all(sign == "\n" or " " <= sign <= "~" for sign in text), path)
            self.assertLessEqual(len(text.split("\n")), 400, path)
            self.assertLessEqual(max(len(row) for row in text.split("\n")), 120, path)
            self.assertTrue(text.endswith("\n") and not text.endswith("\n\n"), path)

    def test_functions_are_small(self):
        self.none(f"{name} {node.name}" for name, node in nodes(ast.FunctionDef, ast.Lambda)
                  if node.end_lineno - node.lineno >= 40)

    def test_imports(self):
        behind = {}
        for name, node in nodes(ast.Import):
            self.fail(f"{name} {node.lineno}")
        for name, node in nodes(ast.ImportFrom):
            self.assertEqual(0, node.level)
            self.assertIsInstance(node.above, ast.Module)
            self.assertTrue(all(alias.asname is None for alias in node.names))
            if node.module in LIBRARY:
                self.assertLessEqual({alias.name for alias in node.names}, LIBRARY[node.module])
                continue
            stem = node.module.removeprefix("lightsout.")
            behind.setdefault(name, set()).add(stem)
            own = {part.name for part in TREES[stem].body if isinstance(part, (ast.FunctionDef, ast.ClassDef))}
            own |= {part.targets[0].id for part in TREES[stem].body if isinstance(part, ast.Assign)}
            self.assertLessEqual({alias.name for alias in node.names}, own, name)
        left = set(TREES)
        while left:
            ready = {name for name in left if not behind.get(name, set()) & left}
            self.assertTrue(ready, f"files import from each other: {left}")
            left -= ready

    def test_every_import_is_used(self):
        for name, tree in TREES.items():
            used = {node.id for node in ast.walk(tree) if isinstance(node, ast.Name)}
            self.none(f"{name} {word}" for word in bound(tree)[0] if word not in used)

    def test_module_level(self):
        for name, tree in TREES.items():
            for node in tree.body:
                self.assertIsInstance(node, (ast.Expr, ast.ImportFrom, ast.FunctionDef, ast.ClassDef, ast.Assign))
                if isinstance(node, ast.Expr):
                    self.assertIsInstance(node.value, ast.Constant)
                if isinstance(node, ast.Assign):
                    self.assertEqual(1, len(node.targets))
                    self.assertIsInstance(node.targets[0], ast.Name)

    def test_nothing_beyond_the_subset(self):
        kinds = (ast.GeneratorExp, ast.Yield, ast.YieldFrom, ast.Global, ast.Nonlocal, ast.Div, ast.AnnAssign,
                 ast.NamedExpr, ast.AsyncFunctionDef, ast.Await, ast.Delete, ast.ExceptHandler, ast.With, ast.Match)
        self.none(f"{name} {node.lineno} {type(node).__name__}" for name, node in nodes(*kinds)
                  if hasattr(node, "lineno"))
        self.none(f"{name}" for name, node in nodes(ast.Div))
        for name, node in nodes(ast.Constant):
            self.assertNotIsInstance(node.value, (float, complex, bytes))
            if isinstance(node.value, str):
                self.assertNotIn("%", node.value)
                self.assertNotIn("__", node.value)

    def test_finally_assigns_names_alone(self):
        for name, node in nodes(ast.Try):
            for told in node.finalbody:
                self.assertIsInstance(told, ast.Assign, name)
                for part in ast.walk(told):
                    self.assertIsInstance(part, (ast.Assign, ast.Tuple, ast.Attribute, ast.Name, ast.expr_context))

    def test_names(self):
        # A doctest leaves its last value there.
        taken = set(dir(builtins)) - {"_"}
        for name, tree in TREES.items():
            imports, classes = bound(tree)
            self.assertEqual(len(imports + classes), len(set(imports + classes)))
            for node, word in locals_of(tree):
                where = f"{name} {node.lineno} {word}"
                self.assertNotIn(word, taken | BARRED, where)
                self.assertNotIn(word, imports + classes, where)
                self.assertFalse(word.startswith("__"), where)
            for node in ast.walk(tree):
                if isinstance(node, (ast.FunctionDef, ast.ClassDef)):
                    self.assertNotIn(node.name, BARRED | (set() if isinstance(node.above, ast.ClassDef) else taken))

    def test_builtins(self):
        for name, tree in TREES.items():
            imports, classes = bound(tree)
            own = {node.name for node in ast.walk(tree) if isinstance(node, (ast.FunctionDef, ast.ClassDef))}
            own |= set(imports) | {word for _, word in locals_of(tree)}
            self.none(f"{name} {node.lineno} {node.id}" for node in ast.walk(tree)
                      if isinstance(node, ast.Name) and node.id not in own | BUILTINS)

    def test_methods(self):
        own = {node.name for _, node in nodes(ast.FunctionDef)}
        self.none(f"{name} {node.lineno} {node.func.attr}" for name, node in nodes(ast.Call)
                  if isinstance(node.func, ast.Attribute) and node.func.attr not in METHODS | own)

    def test_attributes_are_set(self):
        own = {node.attr for _, node in nodes(ast.Attribute) if isinstance(node.ctx, ast.Store)}
        methods = {node.name for _, node in nodes(ast.FunctionDef) if isinstance(node.above, ast.ClassDef)}
        self.none(own & methods)
        self.none(f"{name} {node.lineno} {node.attr}" for name, node in nodes(ast.Attribute)
                  if node.attr not in own | methods | METHODS)

    def test_decorators(self):
        for name, node in nodes(ast.FunctionDef):
            self.assertLessEqual({word.id for word in node.decorator_list}, {"staticmethod", "classmethod", "property"})

    def test_sets_are_used_at_once(self):
        for name, node in nodes(ast.Set, ast.SetComp, ast.Call):
            if isinstance(node, ast.Call) and called(node) != "set":
                continue
            where = f"{name} {node.lineno}"
            self.assertTrue(called(node.above) in ("sorted", "len") or isinstance(node.above, ast.Compare), where)
            self.assertEqual([], getattr(node.above, "keywords", []), where)

    def test_views_are_iterated_at_once(self):
        for name, node in nodes(ast.Call):
            is_view = isinstance(node.func, ast.Attribute) and node.func.attr in ("items", "keys", "values")
            if not is_view and called(node) not in VIEWS:
                continue
            is_head = isinstance(node.above, (ast.For, ast.comprehension)) and node.above.iter is node
            self.assertTrue(is_head or called(node.above) in EATERS, f"{name} {node.lineno}")

    def test_keywords_of_builtins(self):
        allowed = {"sorted": {"key", "reverse"}, "min": {"key", "default"}, "max": {"key", "default"},
                   "sum": {"start"}, "enumerate": {"start"}, "zip": {"strict"}}
        for name, node in nodes(ast.Call):
            if called(node) in BUILTINS:
                self.assertLessEqual({word.arg for word in node.keywords}, allowed.get(called(node), set()))

    def test_is(self):
        for name, node in nodes(ast.Compare):
            for sign, side in zip(node.ops, node.comparators):
                if isinstance(sign, (ast.Is, ast.IsNot)):
                    self.assertTrue(isinstance(side, ast.Constant) and side.value in (None, True, False))

    def test_loops_do_not_change_what_they_go_over(self):
        for name, node in nodes(ast.For):
            over = {part.id for part in ast.walk(node.iter) if isinstance(part, ast.Name)}
            for part in ast.walk(ast.Module(node.body, [])):
                if isinstance(part, ast.Call) and isinstance(part.func, ast.Attribute):
                    if part.func.attr in ("append", "extend", "pop", "remove", "insert", "clear", "update"):
                        self.assertNotIn(getattr(part.func.value, "id", None), over, f"{name} {part.lineno}")

    def test_no_star_in_an_index(self):
        self.none(f"{name} {node.lineno}" for name, node in nodes(ast.Subscript)
                  if any(isinstance(part, ast.Starred) for part in ast.walk(node.slice)))

    def test_comprehensions_within_others_have_names_of_their_own(self):
        kinds = (ast.ListComp, ast.SetComp, ast.DictComp)
        for name, node in nodes(*kinds):
            own = {part.id for told in node.generators for part in ast.walk(told.target) if isinstance(part, ast.Name)}
            above = node.above
            while not isinstance(above, ast.Module):
                if isinstance(above, kinds):
                    outer = {part.id for told in above.generators for part in ast.walk(told.target)
                             if isinstance(part, ast.Name)}
                    self.none(f"{name} {node.lineno} {word}" for word in (own & outer) - {"_"})
                if isinstance(above, ast.FunctionDef) and isinstance(above.above, ast.FunctionDef):
                    outer = {part.id for part in ast.walk(above.above) if isinstance(part, ast.Name)
                             and isinstance(part.ctx, ast.Store)}
                    inner = {part.id for part in ast.walk(above) if isinstance(part, ast.Name)
                             and isinstance(part.ctx, ast.Store)}
                    self.none(f"{name} {node.lineno} {word}" for word in (own & (outer - inner)))
                above = above.above

    def test_lambdas_stand_apart(self):
        lines = [(name, node.lineno) for name, node in nodes(ast.Lambda)]
        self.assertEqual(len(lines), len(set(lines)))

    def test_raise_creates_its_error(self):
        errors = INTERFACE["errors"].split()
        for name, node in nodes(ast.Raise):
            self.assertIn(called(node.exc), errors, f"{name} {node.lineno}")


class Interface(unittest.TestCase):
    def test_everything_stands_in_its_file(self):
        for file, words in INTERFACE.items():
            if file not in TREES:
                continue
            own = {node.name: node for node in TREES[file].body if isinstance(node, (ast.FunctionDef, ast.ClassDef))}
            for word in words.split():
                if ":" in word:
                    name, methods = word.split(":")
                    inside = {node.name for node in own[name].body if isinstance(node, ast.FunctionDef)}
                    self.assertLessEqual(set(methods.split(",")), inside, word)
                elif "(" in word:
                    name, told = word.rstrip(")").split("(")
                    self.assertEqual(told.split(","), [part.arg for part in own[name].args.args], word)
                else:
                    self.assertIsInstance(own[word], ast.ClassDef)

    def test_methods_have_the_parameters_of_their_points(self):
        for _, node in nodes(ast.ClassDef):
            if node.name not in METHOD_ARGUMENTS:
                continue
            own = {part.name: part for part in node.body if isinstance(part, ast.FunctionDef)}
            for word in METHOD_ARGUMENTS[node.name].split():
                name, told = word.rstrip(")").split("(")
                self.assertEqual(["self", *told.split(",")] if told else ["self"],
                                 [part.arg for part in own[name].args.args], word)

    def test_defaults(self):
        listed = {word.split("(")[0] for words in INTERFACE.values() for word in words.split()}
        found = {(name, node.name): [ast.literal_eval(part) for part in node.args.defaults]
                 for name, node in nodes(ast.FunctionDef) if name in INTERFACE and node.args.defaults and node.name in listed | {"__init__"}}
        ends = {("ends", name): [None] for name in ("out_of", "shut_in", "outs", "for_ever", "drains")}
        told = {("surely", name): [True] for name in ("surely", "sure_for_ever")}
        due = {("faces", "face"): [300], ("lots", "__init__"): [5000, False], **ends, **told}
        self.assertEqual({key: due[key] for key in due if key[0] in TREES}, found)

    def test_every_landed_file_is_listed(self):
        own = {"__init__", "basics", "crowds", "events", "ground", "looks", "sights", "tellers", "ticks", "trials", "waits", "watched"}
        self.assertLessEqual(set(TREES) - set(INTERFACE), own)


if __name__ == "__main__":
    unittest.main()
