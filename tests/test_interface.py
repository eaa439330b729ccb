"""The interface: each name, its file and its arguments."""

import importlib
import inspect
import unittest

FUNCTIONS = {
    "packing": ["pack(parts)", "unpack(text)", "digits(number, width)", "number_of(text)"],
    "coins": ["coin(seed, tag, text)"],
    "layouts": ["layout(cell_count, items)"],
    "tables": ["load_table(seed, image)"],
    "nodes": ["above(seed, key, other)", "tree_size(tree)", "tree_entries(tree)", "split_tree(tree, key)",
              "join_trees(seed, lower, upper)", "put_entry(seed, tree, key, value)", "drop_entry(seed, tree, key)",
              "find_value(tree, key)", "tree_image(tree)", "tree_from_image(seed, image)", "is_shaped(seed, tree)"],
    "order": ["load_order(seed, image)"],
    "joins": ["union_tree(seed, first, second)", "minus_tree(seed, first, second)", "same_entries(first, second)",
              "changes(old, new)", "make_changes(order, rows)"],
    "pieces": ["check_file(name, data)", "piece_blocks(name, data)", "rest_blocks(seed, cells, files)",
               "read_files(seed, cells, blocks)"],
    "repair": ["repair(cells, medium)", "mount(seed, cells, medium)"],
    "words": ["is_name(text)", "words(text)"],
    "index": ["load_index(seed, image)"],
    "question": ["parse(question)", "answer(index, question)"],
    "points": ["code(x, y)", "load_points(seed, image)"],
    "records": ["is_record_text(text)", "record_value(record)", "record_from_value(text)"],
    "store": ["load_store(seed, map_image, index_image, points_image)", "store_of_map(seed, map_image)"],
    "lines": ["split_line(line)", "read_number(text, least, most)", "read_line(line)", "is_change(parsed)",
              "spoken_of(parsed)", "line_text(parsed)"],
    "edges": ["load_edges(image)"],
    "ways": ["best_way(edges, kinds, start, end)", "distances(edges, kinds, start)", "trail_ends(edges, start, trail)",
             "groups(edges, kinds)"],
    "hall_lines": ["read_hall_line(line)", "speaks(line, key)"],
    "log": ["load_log(text)"],
    "snaps": ["load_snaps(seed, text)"],
    "pins": ["load_pins(text, store)"],
    "erase": ["erase(hall, key)"],
    "lasting": ["lasting_files(hall)"],
    "revive": ["hall_of(seed, files)"],
    "cut": ["cut(seed, files, key)"],
    "duties": ["load_duties(text, number)"],
    "letters": ["ask_letter(twin, question)", "done_letter(twin, question, moment)",
                "part_letters(twin, question, moment, files)", "read_letter(letter)"],
    "answers": ["answer(letter, moment, files)"],
    "acts": ["backup(house, vault, place, name)", "tend(house, vault, place)"],
    "events": ["read_event(line)", "event_text(event)"],
    "calm": ["calm(seed, twins, vaults, effects)", "without(effects, key)", "forgotten(effects, key)"],
    "scripts": ["run_script(realm, script)", "look(realm)", "same_blocks(first, second)"],
}

CLASSES = {
    "tables": ("Table(seed)", ["put(key, value)", "drop(key)", "value_of(key)", "has(key)", "size()", "pairs()",
                               "cells()", "image()", "looks(key)"]),
    "order": ("Order(seed)", ["put(key, value)", "drop(key)", "has(key)", "value_of(key)", "size()", "entries()",
                              "rank(text)", "entry_at(i)", "span(low, high)", "image()", "tree()", "cut(key)",
                              "take_all(other)"]),
    "blocks": ("Medium(block_count)", ["size()", "writes()", "is_down()", "read(index)", "write(index, block)",
                                       "supply(writes, torn)", "blocks()"]),
    "disk": ("Disk(seed, cells)", ["medium()", "files()", "data_of(name)", "commit(changes)"]),
    "index": ("Index(seed)", ["put(key, text)", "drop(key)", "names()", "places(word, key)", "having(word)",
                              "beginning(start)", "image()"]),
    "points": ("Points(seed)", ["put(key, x, y)", "drop(key)", "point_of(key)", "names()", "inside(x0, y0, x1, y1)",
                                "nearest(x, y, many)", "image()"]),
    "records": ("Record(x, y, label, text, holders, due)", []),
    "store": ("Store(seed)", ["put(key, x, y, label, text)", "drop(key)", "hold(key, holder)", "free(key, holder)",
                              "erase(key)", "has(key)", "record_of(key)", "size()", "names()", "run(line)",
                              "answer(parsed)", "map_image()", "index_image()", "points_image()"]),
    "edges": ("Edges()", ["link(source, kind, target)", "unlink(source, kind, target)", "drop(key)",
                          "has(source, kind, target)", "edges()", "size()", "out_of(key)", "into(key)", "ends()",
                          "image()"]),
    "log": ("Log()", ["room()", "note(line)", "lines()", "stats()", "erase(key)", "image()"]),
    "snaps": ("Snaps(seed)", ["take(name, image)", "remove_one(name)", "answer(name, line)", "names()", "held(key)",
                              "erase(key)", "image()"]),
    "pins": ("Pins()", ["keep(name, line)", "remove_one(name)", "line_of(name)", "names()", "erase(key)",
                        "image(store)"]),
    "sessions": ("Transaction(seed, image)", ["run(line)", "noted()", "conflicts(store)", "held(key)", "erase(key)",
                                              "images()"]),
    "hall": ("Hall(seed)", ["run(session, line)", "image()"]),
    "houses": ("House(seed, places)", ["run(session, line, number)", "supply(writes, torn)", "restart(number)",
                                       "is_up()", "lasting()", "duties()", "confirmed(place, moment)",
                                       "remove_duties(place, keys)", "blocks()"]),
    "post": ("Post()", ["send(letter)", "letters()", "size()", "room()", "deliver(index)", "lose(index)",
                        "double(index)"]),
    "twins": ("Twin(name, seed)", ["medium()", "is_down()", "ask(event)", "question()", "waiting()", "take(letter)",
                                   "files()", "blocks()", "restart()"]),
    "duties": ("Duties()", ["note(key, place, number)", "remove_noted(place, number)", "remove_keys(place, key_list)",
                            "keys_of(place)", "places_of(key)", "pairs()", "image()", "clone()"]),
    "vaults": ("Vault(seed)", ["keep(name, files)", "discard(name)", "cut_keys(keys)", "restart()",
                               "supply(writes, torn)", "is_up()", "blocks()", "generations()", "files_of(name)"]),
    "realms": ("Realm(seed, twins, vaults)", ["handle(event)", "settle()", "effects()", "number()", "places()",
                                              "blocks_of(place)", "is_up(place)", "letters()"]),
}


def split_entry(entry):
    name, _, rest = entry.partition("(")
    return name, [argument for argument in rest[:-1].split(", ") if argument]


class TestInterface(unittest.TestCase):
    def check_arguments(self, call, arguments):
        parameters = list(inspect.signature(call).parameters.values())
        self.assertEqual([parameter.name for parameter in parameters], arguments)
        self.assertTrue(all(parameter.default is inspect.Parameter.empty for parameter in parameters))

    def test_functions(self):
        for file, entries in FUNCTIONS.items():
            module = importlib.import_module("lethe." + file)
            for entry in entries:
                name, arguments = split_entry(entry)
                function = getattr(module, name)
                self.assertTrue(inspect.isfunction(function))
                self.assertEqual(function.__module__, "lethe." + file)
                self.check_arguments(function, arguments)

    def test_classes(self):
        for file, (entry, methods) in CLASSES.items():
            module = importlib.import_module("lethe." + file)
            name, arguments = split_entry(entry)
            found = getattr(module, name)
            self.assertEqual((found.__module__, found.__bases__), ("lethe." + file, (object,)))
            self.check_arguments(found, arguments)
            for method_entry in methods:
                method, method_arguments = split_entry(method_entry)
                self.check_arguments(vars(found)[method], ["self"] + method_arguments)


if __name__ == "__main__":
    unittest.main()
