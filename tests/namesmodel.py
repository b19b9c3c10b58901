"""A plain model of a tree of nodes, as the points 87 to 105 tell it, and random paths for it."""

from segmentfs import errors

SIGNS = [chr(code) for code in range(32, 127) if code != 37]


class ModelNode:
    def __init__(self, kind, parent=0):
        self.kind = kind
        self.links = 1
        self.parent = parent
        self.places = []
        self.text = ""
        self.octets = []

    def size(self):
        return {1: len(self.octets), 2: 32 * len(self.places), 3: len(self.text)}[self.kind]

    def row(self):
        return (self.kind, self.links, self.parent, list(self.places), self.text, list(self.octets))


class NamesModel:
    """Nodes by their numbers. A change that raises an error changes nothing."""

    def __init__(self):
        self.nodes = {1: ModelNode(2, 1)}

    def rows(self):
        return {number: node.row() for number, node in self.nodes.items()}

    # Reading and following

    def check_signs(self, text):
        return all(sign in SIGNS for sign in text)

    def read(self, text):
        if len(text) > 200:
            raise errors.NameTooLong("")
        if text[:1] != "/" or not self.check_signs(text):
            raise errors.InvalidPath("")
        parts = [part for part in text.split("/") if part]
        if len(parts) > 16 or max([len(part) for part in parts], default=0) > 28:
            raise errors.NameTooLong("")
        return parts, bool(parts) and text[-1] == "/"

    def read_target(self, text):
        if len(text) > 200:
            raise errors.NameTooLong("")
        if not text or not self.check_signs(text):
            raise errors.InvalidPath("")

    def names(self, number):
        return {entry[0]: entry[1] for entry in self.nodes[number].places if entry}

    def follow(self, path, last):
        """Return the directory, the name or None, and the number or 0."""
        parts, closed = path
        return self.step(1, parts, last or closed, 0)

    def step(self, at, parts, last, followed):
        if not parts:
            return (at, None, at)
        if self.nodes[at].kind != 2:
            raise errors.NotDirectory("")
        name, rest = parts[0], parts[1:]
        if name == ".":
            return self.step(at, rest, last, followed)
        if name == "..":
            return self.step(self.nodes[at].parent, rest, last, followed)
        target = self.names(at).get(name, 0)
        if target == 0:
            if rest:
                raise errors.NotFound("")
            return (at, name, 0)
        node = self.nodes[target]
        if node.kind == 3 and (rest or last):
            if followed == 8:
                raise errors.LinkLoop("")
            start = 1 if node.text[0] == "/" else at
            return self.step(start, [part for part in node.text.split("/") if part] + rest, last, followed + 1)
        if rest:
            return self.step(target, rest, last, followed)
        return (at, name, target)

    def node_at(self, path, last):
        _, _, number = self.follow(path, last)
        if number == 0:
            raise errors.NotFound("")
        if path[1] and self.nodes[number].kind != 2:
            raise errors.NotDirectory("")
        return number

    def new_name(self, path, may_be_closed=True):
        directory, name, number = self.follow(path, False)
        if number != 0:
            raise errors.AlreadyExists("")
        if len(name) > 28:
            raise errors.NameTooLong("")
        if path[1] and not may_be_closed:
            raise errors.NotDirectory("")
        return directory, name

    # Entries and nodes

    def add(self, directory, name, number):
        places = self.nodes[directory].places
        if None in places:
            places[places.index(None)] = (name, number)
        else:
            places.append((name, number))

    def cut(self, directory, name):
        places = self.nodes[directory].places
        places[[entry and entry[0] for entry in places].index(name)] = None

    def take(self, node):
        number = min(set(range(1, len(self.nodes) + 2)) - set(self.nodes))
        self.nodes[number] = node
        return number

    def release(self, number, opened):
        if self.nodes[number].links == 1 and number not in opened:
            del self.nodes[number]
        else:
            self.nodes[number].links -= 1

    # Changes

    def mkdir(self, text):
        directory, name = self.new_name(self.read(text))
        number = self.take(ModelNode(2, directory))
        self.add(directory, name, number)
        return number

    def create(self, text):
        directory, name = self.new_name(self.read(text), False)
        number = self.take(ModelNode(1))
        self.add(directory, name, number)
        return number

    def symlink(self, target, text):
        self.read_target(target)
        directory, name = self.new_name(self.read(text), False)
        node = ModelNode(3)
        node.text = target
        number = self.take(node)
        self.add(directory, name, number)
        return number

    def link(self, text, new_text):
        path, new_path = self.read(text), self.read(new_text)
        number = self.node_at(path, False)
        if self.nodes[number].kind == 2:
            raise errors.NotAllowed("")
        directory, name = self.new_name(new_path, False)
        if self.nodes[number].links == 40:
            raise errors.TooManyNames("")
        self.nodes[number].links += 1
        self.add(directory, name, number)

    def unlink(self, text, opened):
        path = self.read(text)
        directory, name, number = self.follow(path, False)
        if name is None:
            raise errors.IsDirectory("")
        if number == 0:
            raise errors.NotFound("")
        if self.nodes[number].kind == 2:
            raise errors.IsDirectory("")
        if path[1]:
            raise errors.NotDirectory("")
        self.cut(directory, name)
        self.release(number, opened)

    def not_itself(self, way):
        if way[1] is None:
            raise (errors.Busy if way[0] == 1 else errors.InvalidMove)("")

    def rmdir(self, text):
        way = self.follow(self.read(text), False)
        self.not_itself(way)
        directory, name, number = way
        if number == 0:
            raise errors.NotFound("")
        if self.nodes[number].kind != 2:
            raise errors.NotDirectory("")
        if self.names(number):
            raise errors.NotEmpty("")
        self.cut(directory, name)
        del self.nodes[number]

    def below(self, number, other):
        return number == other or (number != 1 and self.below(self.nodes[number].parent, other))

    def rename(self, text, new_text, opened):
        path, new_path = self.read(text), self.read(new_text)
        old = self.follow(path, False)
        self.not_itself(old)
        number = old[2]
        if number == 0:
            raise errors.NotFound("")
        moves_directory = self.nodes[number].kind == 2
        if path[1] and not moves_directory:
            raise errors.NotDirectory("")
        new = self.follow(new_path, False)
        self.not_itself(new)
        if moves_directory and self.below(new[0], number):
            raise errors.InvalidMove("")
        if new_path[1] and not moves_directory:
            raise errors.NotDirectory("")
        if new[2] == number:
            return
        if new[2] == 0:
            if len(new[1]) > 28:
                raise errors.NameTooLong("")
            self.cut(old[0], old[1])
            self.add(new[0], new[1], number)
        else:
            self.replace(old, new, moves_directory, opened)
        if moves_directory:
            self.nodes[number].parent = new[0]

    def replace(self, old, new, moves_directory, opened):
        other = self.nodes[new[2]]
        if moves_directory and other.kind != 2:
            raise errors.NotDirectory("")
        if moves_directory and self.names(new[2]):
            raise errors.NotEmpty("")
        if not moves_directory and other.kind == 2:
            raise errors.IsDirectory("")
        places = self.nodes[new[0]].places
        places[places.index((new[1], new[2]))] = (new[1], old[2])
        self.cut(old[0], old[1])
        if other.kind == 2:
            del self.nodes[new[2]]
        else:
            self.release(new[2], opened)

    # Ways

    def ways(self, number, way=()):
        """Return the ways below a node, by recursion."""
        found = [(way, number)]
        for name, target in sorted(self.names(number).items()):
            found += self.ways(target, way + (name,))
        return found


NAMES = ("a", "b", "ab", "c-d", "e e", "f!", "g" * 28)


def random_path(chance, model, wanted=None):
    """Return a path: mostly that of a node that is there, or of a new name in a directory that is there.

    `wanted` is "new", "directory", "other" (no directory), or None for any of these.
    """
    ways = model.ways(1)
    wanted = wanted or chance.choice(("new", "directory", "other"))
    if wanted == "new":
        way = chance.choice([way for way, number in ways if model.nodes[number].kind == 2])
        way += (chance.choice(NAMES) if chance.random() < 0.5 else f"n{chance.randrange(40)}",)
    else:
        found = [way for way, number in ways if (model.nodes[number].kind == 2) == (wanted == "directory")]
        way = chance.choice([way for way in found if way] or [()])
    return spoiled(chance, model, list(way))


def spoiled(chance, model, names):
    """Return the text of a path, with some more names and slashes in it now and then."""
    links = [way for way, number in model.ways(1) if model.nodes[number].kind == 3]
    if links and chance.random() < 0.15:
        names = list(chance.choice(links)) + names[-chance.randrange(3):]
    if chance.random() < 0.12:
        names.insert(chance.randrange(len(names) + 1), chance.choice((".", "..", "..") + NAMES))
    if chance.random() < 0.05:
        names.append(chance.choice(("..", ".") + NAMES))
    slash = "//" if chance.random() < 0.05 else "/"
    return slash + slash.join(names) + chance.choice(("", "", "", "", "", "", "", "/"))


def random_target(chance, model):
    """Return the text of a link: a path, or a path from the link's directory."""
    draw = chance.random()
    if draw < 0.1:
        return chance.choice((".", "..", "/", "../..", "x" * 29, "a/" + "y" * 30, "./", "b//"))
    text = random_path(chance, model)
    return text if draw < 0.6 else "/".join(text.strip("/").split("/")[-2:]) or "a"
