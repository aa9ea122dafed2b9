"""The files of a package, with what the rules of LANGUAGE.md ask of their code."""

import ast
import warnings
from pathlib import Path

COMPREHENSIONS = (ast.ListComp, ast.DictComp, ast.SetComp)


class File:
    """A file of the package: its text, its tree, and what is bound in it."""

    def __init__(self, name, text):
        self.name = name
        self.text = text
        with warnings.catch_warnings():
            # Python's warnings are looked for by a rule of their own.
            warnings.simplefilter("ignore")
            self.tree = ast.parse(text)
        self.nodes = list(ast.walk(self.tree))
        self.above = {below: node for node in self.nodes for below in ast.iter_child_nodes(node)}
        self.functions = self.all_of(ast.FunctionDef)
        self.classes = self.all_of(ast.ClassDef)
        self.imports = self.all_of(ast.ImportFrom)
        self.imported = {alias.name: node.module for node in self.imports for alias in node.names}
        self.docstrings = self.find_docstrings()

    def all_of(self, *kinds):
        return [node for node in self.nodes if isinstance(node, kinds)]

    def find_docstrings(self):
        found = []
        for node in [self.tree] + self.functions + self.classes:
            if ast.get_docstring(node, False) is not None:
                found.append(node.body[0].value)
        return found

    def strings(self):
        """Return the strings of the code, parts of f-strings included, docstrings left out."""
        found = []
        for node in self.all_of(ast.Constant):
            if isinstance(node.value, str) and node not in self.docstrings:
                found.append(node)
        return found

    def around(self, node, *kinds):
        """Return the nearest node of some kinds around a node, or None."""
        node = self.above.get(node)
        while node is not None and not isinstance(node, kinds):
            node = self.above.get(node)
        return node

    def top_names(self):
        """Return the names that are bound at module level, as often as they are bound."""
        found = []
        for node in self.tree.body:
            if isinstance(node, (ast.FunctionDef, ast.ClassDef)):
                found.append(node.name)
            elif isinstance(node, ast.ImportFrom):
                found += [alias.asname or alias.name for alias in node.names]
            elif isinstance(node, ast.Assign):
                found += [target.id for target in node.targets if isinstance(target, ast.Name)]
        return found

    def top_functions(self):
        return {node.name: node for node in self.tree.body if isinstance(node, ast.FunctionDef)}

    def top_values(self):
        """Return the values that are given to names at module level."""
        found = {}
        for node in self.tree.body:
            if isinstance(node, ast.Assign) and isinstance(node.targets[0], ast.Name):
                found[node.targets[0].id] = node.value
        return found


def parameters(function):
    """Return the names of the parameters of a function."""
    return [arg.arg for arg in function.args.posonlyargs + function.args.args + function.args.kwonlyargs]


def local_names(function):
    """Return the parameters of a function and all names that it assigns."""
    found = parameters(function)
    for node in ast.walk(function):
        if isinstance(node, ast.Name) and not isinstance(node.ctx, ast.Load):
            found.append(node.id)
    return found


def is_method(file, function):
    return isinstance(file.above[function], ast.ClassDef)


def is_static(function):
    return [ast.unparse(decorator) for decorator in function.decorator_list] == ["staticmethod"]


class Package:
    """A package, given as a dict from the names of its files to their texts."""

    def __init__(self, name, texts):
        self.name = name
        self.names = list(texts)
        self.files = [File(name, text) for name, text in texts.items() if name.endswith(".py")]
        self.classes = {node.name: node for file in self.files for node in file.classes}
        self.methods = {}
        self.attributes = {}
        for file in self.files:
            for function in file.functions:
                if is_method(file, function):
                    self.methods.setdefault(function.name, []).append(function)
            for node in file.all_of(ast.Attribute):
                if isinstance(node.ctx, ast.Store):
                    self.attributes[node.attr] = True

    def file_of(self, module):
        """Return the file of a module, or None."""
        for file in self.files:
            if module == f"{self.name}.{file.name[:-3]}":
                return file
        return None

    def function_called(self, file, name):
        """Return the function of the package that a name means in a file, or None."""
        if name in file.imported:
            file = self.file_of(file.imported[name])
        return file.top_functions().get(name) if file is not None else None

    def value_named(self, file, name):
        """Return the module-level value that a name means in a file, or None."""
        if name in file.imported:
            file = self.file_of(file.imported[name])
        return file.top_values().get(name) if file is not None else None

    def init_of(self, name):
        """Return the __init__ of an own class, also one that it inherits, or None."""
        while name in self.classes:
            for node in self.classes[name].body:
                if isinstance(node, ast.FunctionDef) and node.name == "__init__":
                    return node
            bases = self.classes[name].bases
            name = ast.unparse(bases[0]) if bases else None
        return None


def package_in(folder):
    """Return the package in a folder. Whatever else lies there counts as a file, too."""
    texts = {}
    for path in sorted(Path(folder).rglob("*")):
        if "__pycache__" not in path.parts:
            name = str(path.relative_to(folder))
            texts[name] = path.read_bytes().decode("utf-8") if path.is_file() else ""
    return Package(Path(folder).name, texts)
