"""The interface: each name is defined in its file, with the names of its arguments."""

import ast
import importlib
import inspect
import pathlib
import unittest

PACKAGE = pathlib.Path(__file__).resolve().parent.parent / "deedworlds"
FILES = {
    "terms": """signature_wrong(thing) term_wrong(signature,thing) equation_wrong(signature,thing) kind_wrong(thing)
        variables_in(signature,term) letters_of(signature,equation) paths_in(signature,term)
        term_at(signature,term,path) put_at(signature,term,path,other) put_in(signature,term,putting)
        lettered(signature,term) matched(signature,pattern,term)""",
    "texts": """term_text(signature,term) equation_text(signature,equation) kind_text(kind) read_term(signature,text)
        read_equation(signature,text) least_equation(signature,equation) read_kind(text)""",
    "models": """model_wrong(signature,thing) worth_by(signature,model,term,worths)
        worth_row(signature,model,term,chosen) keeps(kind,model) first_broken(kind,model)
        broken_many(signature,model,equation) told_by(signature,model,equations)""",
    "modeltexts": "model_text(signature,model) read_model(signature,text)",
    "maps": """renamed(signature,model,order) renamed_by(one,other) least_form(signature,model)
        own_orders(signature,model) renamings(signature,model) orbits(signature,model)""",
    "likeness": "likeness(signature,one,other) likeness_judged(signature,one,other,paper)",
    "search": "cells_of(signature,size) search_judged(kind,size,paper) leaves(kind,size,paper) shown(kind,size,paper)",
    "plain": "plain(kind,size) search(kind,size) nodes(kind,size)",
    "grown": "grown(kind,size,paper)",
    "counting": """all_models(kind,size) how_many(kind,size) all_told(kind,size) model_of(kind,size,k)
        number_of(kind,size,model) spectrum(kind,*,most=6)""",
    "roads": """road_wrong(kind,thing) road_judged(kind,equation,thing) road_turned(kind,road)
        road_joined(kind,one,other) road_placed(kind,road,term,path) road_put(kind,road,putting)
        road_uses(kind,road)""",
    "following": """road_for(kind,equation,*,parts=9) shut_list(kind,equation,*,parts=9)
        shut_judged(kind,equation,thing,*,parts=9)""",
    "answers": """answered(kind,equation,size,*,parts=9) answer_judged(kind,equation,thing)
        state_of(kind,equation,answer)""",
    "leaning": """leaned(kind,number,size,*,parts=9) all_leaned(kind,size,*,parts=9) enough(kind,lot,size)
        least_lots(kind,size) lot_paper(kind,lot,size) lot_judged(kind,lot,size,thing)""",
    "parts": """made_by(signature,model,numbers) closed_lists(signature,model) part(signature,model,closed)
        build(signature,model,numbers) build_judged(signature,model,numbers,thing)""",
    "leads": """leads(signature,one,other) lead_judged(signature,one,other,thing) product(signature,one,other)
        sides(signature,one,other) image(signature,one,other,lead)""",
    "joins": """joined(signature,model,pairs) joins(signature,model) covers(signature,model)
        quotient(signature,model,join) chain(signature,model,pairs,a,b)
        chain_judged(signature,model,pairs,a,b,thing)""",
    "free": """row_of(signature,model,letters,term) free_rows(signature,model,letters)
        free_deed(signature,model,letters,name,rows)""",
    "nearest": "far_from(signature,one,other) nearest(kind,model) mended(kind,model,*,most=12)",
    "weights": """weighing_wrong(signature,thing) weight_of(signature,weighing,term)
        compared(signature,weighing,one,other)""",
    "lemmas": """lemmas_wrong(kind,thing) spelt(kind,lemmas,number) rules_wrong(kind,weighing,lemmas,thing)
        pairs_of(kind,weighing,lemmas,rules)""",
    "forms": "form_of(kind,weighing,lemmas,rules,term) uses_road(kind,weighing,lemmas,rules,term,uses)",
    "overlaps": """unified(signature,one,other) pair_wrong(signature,thing) overlap_of(signature,first,second,path)
        overlaps(signature,pairs) uses_at(signature,pairs,term) used(signature,pairs,term,use)
        join_wrong(signature,pairs,one,other,thing)""",
    "completion": "completed(kind,weighing,*,most=40,parts=25) tidied(kind,paper) rule_set(kind,paper)",
    "complete": """complete_wrong(kind,thing) decided(kind,paper,equation) decided_wrong(kind,paper,equation,thing)
        road_by(kind,paper,equation)""",
    "conjectures": """small_terms(signature,*,parts=4,letters=2) down(signature,equations,term)
        classes(kind,size,*,parts=4,letters=2) conjectures(kind,size,*,parts=4,letters=2)
        all_partings(kind,size,*,parts=4,letters=2) low_of(signature,equations,term) parting(kind,equation,size)
        conjectures_judged(kind,size,thing,*,parts=4,letters=2)""",
    "readings": """reading_wrong(signature,other,thing) term_read(signature,other,reading,term)
        model_read(signature,other,reading,model) two_read(first,second,third,one,two)""",
    "leadings": "leading_wrong(kind,other,thing) led_road(kind,other,leading,equation,road)",
    "joined": """renaming_wrong(signature,thing) called(signature,renaming) called_term(signature,renaming,term)
        called_equation(signature,renaming,equation) called_kind(kind,renaming) called_road(kind,renaming,road)
        moved_road(one,other,which,road) joined_signature(one,other) joined_kind(one,other) places_in_join(one,other)
        moved_answer(one,other,which,equation,answer) widened(one,other,which,model)""",
    "judge": """claim_judged(kind,equation,thing) claim_state(kind,equation,answer)
        found_answer(kind,equation,size,*,paper=None,parts=9)""",
    "papertexts": "paper_text(thing,*,deep=300) read_paper(text,*,deep=300)",
}
CONSTANTS = {"terms": {"VARIABLES": ("u", "v", "w", "x", "y", "z"), "MOST_PARTS": 60, "MOST_SIDE": 12,
                       "MOST_SIZE": 6},
             "plain": {"MOST_NODES": 1000}, "grown": {"MOST_GROWN": 20000}, "roads": {"MOST_LINES": 600},
             "following": {"MOST_COME": 500}, "free": {"MOST_ROWS": 100, "MOST_WORTHS": 64},
             "lemmas": {"MOST_LEMMAS": 200}, "conjectures": {"MOST_SMALL": 400, "MOST_DOWN": 500, "MOST_TOLD": 100},
             "joined": {"MOST_WAYS": 2000}, "papertexts": {"MOST_DEEP": 300}}
HOUSE = """__init__(self,*,size=3,parts=7) __len__(self) begin(self,title,signature) end(self,title)
    drop(self,title,number) teach(self,title,paper) back(self) again(self) put(self,title,equation)
    strike(self,title,number) settle(self,title) lead(self,title,other,leading) take(self,title,other,leading)
    suppose(self,title,parts,letters) join(self,title,one,other,renaming) claim(self,title,equation)
    ask(self,title,number) learn(self,title,number,answer) deeds(self,rows,*,keep=False) books(self)
    claims(self,title) states(self,title) searched(self) log(self) kind(self,title) paper(self,title)
    known(self,title,number) leaning(self,title,number)"""
DESK = "__init__(self,*,size=3,parts=7) say(self,text)"
METHODS = {"its_signature": ["self"], "as_model": ["self"], "makes": ["self", "name", "args"],
           "with_cell": ["self", "name", "args", "number"], "__init__": ["self", "signature", "size", "tables"],
           "__eq__": None, "__len__": None, "__str__": None}


def defined_in(name):
    """The functions and classes that a file defines at its outermost."""
    rows = ast.parse((PACKAGE / f"{name}.py").read_text()).body
    return {row.name: row for row in rows if isinstance(row, (ast.FunctionDef, ast.ClassDef))}


class InterfaceTest(unittest.TestCase):
    def test_functions(self):
        for name, listed in FILES.items():
            module = importlib.import_module(f"deedworlds.{name}")
            for one in listed.split():
                function, args = one.rstrip(")").split("(")
                self.assertIn(function, defined_in(name))
                told = inspect.signature(getattr(module, function))
                self.assertEqual(str(told).replace(" ", ""), f"({args})", function)

    def test_constants(self):
        for name, listed in CONSTANTS.items():
            module = importlib.import_module(f"deedworlds.{name}")
            for constant, worth in listed.items():
                self.assertEqual(getattr(module, constant), worth)

    def test_methods_of_model(self):
        rows = defined_in("models")["Model"].body
        methods = {row.name: [one.arg for one in row.args.args] for row in rows if isinstance(row, ast.FunctionDef)}
        for name, args in METHODS.items():
            self.assertIn(name, methods)
            if args is not None:
                self.assertEqual(methods[name], args)

    def test_methods_of_house_and_desk(self):
        for name, title, listed in (("houses", "House", HOUSE), ("desk", "Desk", DESK)):
            rows = defined_in(name)[title].body
            methods = {row.name: row for row in rows if isinstance(row, ast.FunctionDef)}
            for one in listed.split():
                method, args = one.rstrip(")").split("(")
                self.assertEqual(ast.unparse(methods[method].args).replace(" ", ""), args)


class FilesTest(unittest.TestCase):
    """The plainest of the rules for the package's files."""

    def test_lines_and_functions(self):
        for path in PACKAGE.glob("*.py"):
            text = path.read_text()
            lines = text.split("\n")
            self.assertLess(len(lines), 401, path)
            for line in lines:
                self.assertLess(len(line), 121, path)
                self.assertTrue(all(" " <= sign <= "~" for sign in line), path)
            for row in ast.walk(ast.parse(text)):
                if isinstance(row, ast.FunctionDef):
                    self.assertLess(row.end_lineno - row.lineno, 40, (path, row.name))

    def test_imports_are_of_the_package(self):
        for path in PACKAGE.glob("*.py"):
            for row in ast.walk(ast.parse(path.read_text())):
                self.assertNotIsInstance(row, ast.Import, path)
                if isinstance(row, ast.ImportFrom):
                    self.assertTrue(row.module.startswith("deedworlds."), path)
                    self.assertTrue((PACKAGE / f"{row.module.split('.')[1]}.py").exists())


if __name__ == "__main__":
    unittest.main()
