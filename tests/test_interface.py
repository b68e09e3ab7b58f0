"""The names and arguments of the interface, and what point 2 says of the whole program."""

import ast
import importlib
import inspect
import pathlib
import unittest

import discwright

FOLDER = pathlib.Path(discwright.__file__).parent

FUNCTIONS = {
    "bytework": ("byte_bits(value)", "bits_byte(bits)", "exclusive(first, second)", "crc(values)", "total(values)",
                 "parity(lists)", "two_bytes(number)"),
    "flux": ("flux_of(cells, cell)", "fixed_cells(read, cell)", "following_cells(read, cell)", "weak_places(lists)",
             "steady_cells(lists)"),
    "encodings": ("fm_cells(values)", "mfm_cells(values, *, before=0)", "gcr_cells(values)", "read_fm(cells)",
                  "read_mfm(cells, *, before=0)", "read_gcr(cells)", "gcr_code(number)"),
    "tracks": ("track_bytes(sectors)", "track_cells(sectors, *, length=0)", "found_sectors(cells)"),
    "numbers": ("write_number(number)", "read_number(values, at)"),
    "images": ("image_bytes(image)", "read_image(values)"),
    "merging": ("views_of(reads, cell)", "outcomes(reads, cell)", "left_out(reads, cell)"),
    "protection": ("features(place, reads, cell, wanted)", "protected_cells(sectors, runs, number, *, length=0)"),
    "blockdiscs": ("disc_of(image, geometry)", "image_of(disc, geometry, cell, note)"),
    "chains": ("is_file_name(name)", "make_chains(files, count, size, directory)", "chain_files(disc)",
               "read_chain(disc, name)", "directory_faults(disc)", "is_sound(disc)"),
    "extents": ("make_extents(files, count, size, directory)", "extent_files(disc)", "read_extent(disc, name)",
                "bad_entries(disc)", "delete_file(disc, name)", "deleted_files(disc)", "bring_back(disc, name)",
                "are_extents_sound(disc)"),
    "paritywork": ("holds(disc, group)", "mended_by_parity(disc, plan)", "broken_groups(disc, plan)",
                   "with_parity(disc, plan)"),
    "unknowns": ("crc_change(length, place)", "solution_count(values, unknown, wanted)",
                 "solution(values, unknown, wanted)"),
    "repairs": ("is_taken(case, index, values, certificate)", "repair_for(case, index)", "repaired(case, ledger)",
                "found_repairs(case)"),
    "cartridges": ("true_length(dump)", "trimmed(dump)", "make_cartridge(kind, title, banks)", "merged(dumps)"),
    "patches": ("difference(first, second)", "fine_difference(first, second)", "patch_bytes(patch)",
                "read_patch(values)"),
    "archives": ("right_lines(lines)", "audit(items, lines)"),
    "noise": ("jittered(read, amounts)", "at_speed(read, p, q)", "scratched(read, first, count)"),
    "mending": ("mended_chains(disc)",),
    "conversion": ("all_files(disc)", "kind_of(disc)", "converted(disc, kind, count, size, directory)",
                   "compared(first, second)"),
    "reports": ("report(image, geometry)", "run_task(image, text)"),
    "grouptracks": ("group_cells(sectors, size)", "found_groups(cells, size)", "exclusive_of(values)"),
    "tracktexts": ("read_track_text(text)", "track_text(sectors, runs, length)", "sectors_of(cells)"),
    "oldimages": ("old_bytes(image)", "read_old(values)", "migrated(values)"),
    "collections": (),
}
# For each class of a file, what it is made with and its methods.
CLASSES = {
    "flux": {"Read(intervals, rest)": ("__eq__(other)", "duration()")},
    "tracks": {"Sector(address, data, *, address_wrong=False, data_wrong=False)": ("__eq__(other)",)},
    "images": {"Image(cell, note, tracks)": ("__eq__(other)", "places()", "reads(place)")},
    "blockdiscs": {"BlockDisc(blocks)": ("__eq__(other)", "__len__()", "block(index)", "missing()",
                                         "with_block(index, values)")},
    "repairs": {"Case(disc, dumps, plan, crcs)": ("wrong_blocks()",)},
    "cartridges": {"Cartridge(values)": (), "Mapper(cartridge)": ("peek(address)", "poke(address, value)")},
    "patches": {"Patch(changes)": ("__eq__(other)", "apply(values)", "opposite()")},
    "archives": {"Archive()": ("put(name, values)", "drop(name)", "note(text)", "names()", "item(name)", "log()")},
    "collections": {"Collection()": ("add(name, image)", "image(name)", "names()", "kept_count()", "keys()",
                                     "check(keys)")},
    "errors": {"InvalidSector(index)": (), "NotTaken(index)": (), "DoesNotFit(index)": (), "InvalidLine(line)": ()},
}


def written(thing, *, without_self=False):
    """A function or method as the interface writes it."""
    parameters = list(inspect.signature(thing).parameters.values())
    if without_self:
        parameters = parameters[1:]
    return thing.__name__ + str(inspect.Signature(parameters))


def module_of(name):
    return importlib.import_module("discwright." + name)


class InterfaceTest(unittest.TestCase):

    def test_functions(self):
        for name, functions in FUNCTIONS.items():
            for text in functions:
                thing = getattr(module_of(name), text.split("(")[0])
                self.assertEqual(written(thing), text)
                self.assertEqual(thing.__module__, "discwright." + name)

    def test_classes(self):
        for name, classes in CLASSES.items():
            for text, methods in classes.items():
                thing = getattr(module_of(name), text.split("(")[0])
                self.assertEqual(thing.__module__, "discwright." + name)
                self.assertEqual(thing.__name__ + written(thing.__init__, without_self=True)[len("__init__"):], text)
                for method in methods:
                    own = thing.__dict__[method.split("(")[0]]
                    self.assertEqual(written(own, without_self=True), method)

    def test_errors(self):
        """Each error class that the program has is one of discwright/errors.py, below DiscError."""
        errors = module_of("errors")
        for name in FUNCTIONS:
            for thing in vars(module_of(name)).values():
                if inspect.isclass(thing) and issubclass(thing, Exception):
                    self.assertEqual(thing.__module__, "discwright.errors")
                    self.assertTrue(issubclass(thing, errors.DiscError))


class PackageTest(unittest.TestCase):

    def trees(self):
        return [(path.name, ast.parse(path.read_text("utf-8"))) for path in sorted(FOLDER.glob("*.py"))]

    def test_files_of_the_interface(self):
        for name in list(FUNCTIONS) + ["errors"]:
            self.assertTrue((FOLDER / (name + ".py")).is_file())
        self.assertTrue((FOLDER / "__init__.py").is_file())

    def test_imports(self):
        """No clock, no random numbers, no files: nothing but modules of the package is imported."""
        for name, tree in self.trees():
            for node in ast.walk(tree):
                self.assertNotIsInstance(node, ast.Import, name)
                if isinstance(node, ast.ImportFrom):
                    self.assertEqual([node.level, node.module.split(".")[0]], [0, "discwright"], name)

    def test_calls(self):
        for name, tree in self.trees():
            for node in ast.walk(tree):
                if isinstance(node, ast.Name):
                    self.assertNotIn(node.id, ("open", "input", "print", "exec", "eval", "__import__", "id", "hash"), name)

    def test_sizes(self):
        for path in FOLDER.glob("*.py"):
            lines = path.read_text("ascii").split("\n")
            self.assertLessEqual(len(lines) - 1, 399, path.name)
            self.assertLessEqual(max(len(line) for line in lines), 120, path.name)
        for name, tree in self.trees():
            for node in ast.walk(tree):
                if isinstance(node, ast.FunctionDef):
                    self.assertLessEqual(node.end_lineno - node.lineno, 39, (name, node.name))


if __name__ == "__main__":
    unittest.main()
