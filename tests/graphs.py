"""What a seal leads to, reckoned from the bytes of a file that is not damaged."""

from tessera.objects import ArrayObject, Group, read_object
from tessera.records import NOWHERE, read_record
from tessera.seals import seal_at

from tests.plain_store import above
from tests.tools import node_at


class Graph:
    """The records of the last batch of a file."""

    def __init__(self, disk):
        self.disk = disk.copied()
        place = max(at for at in range(len(disk)) if seal_at(disk, at) is not None)
        self.batch, self.root = seal_at(disk, place)

    def walk(self, root, damaged):
        """The nodes of a tree that are visited, the pairs that are found, and whether a node is damaged."""
        if root == NOWHERE:
            return [], [], False
        if root in damaged:
            return [root], [], True
        kind, pairs = node_at(self.disk, root)
        if kind == 1:
            return [root], pairs, False
        visited, found, torn = [root], [], False
        for _, below in pairs:
            nodes, more, also = self.walk(below, damaged)
            visited, found, torn = visited + nodes, found + more, torn or also
        return visited, found, torn

    def thing(self, pointer):
        return read_object(read_record(self.disk, 4, pointer))

    def visited(self, damaged=()):
        """The set of the pointers that inspecting visits when these records are damaged."""
        nodes, pairs, _ = self.walk(self.root, damaged)
        seen = set(nodes)
        for _, pointer in pairs:
            seen.add(pointer)
            if pointer not in damaged and isinstance(self.thing(pointer), ArrayObject):
                nodes, chunks, _ = self.walk(self.thing(pointer).root, damaged)
                seen |= set(nodes) | {chunk for _, chunk in chunks}
        return seen

    def found(self, damaged):
        """The paths that are found in the directory, with their pointers, and whether a node is damaged."""
        _, pairs, torn = self.walk(self.root, damaged)
        return {"".join(map(chr, key)): pointer for key, pointer in pairs}, torn

    def repair(self, damaged):
        """What point 55 keeps, and the losses: pairs of the kept objects by path, and of the lost chunks."""
        found, torn = self.found(damaged)
        kept, losses = {"": Group([])}, []
        if found.get("") in damaged:
            losses.append(("path", ""))
        elif "" in found:
            kept[""] = self.thing(found[""])
        losses += [("nodes", "")] if torn else []
        for path in sorted(set(found) - {""}):
            if found[path] in damaged or not isinstance(kept.get(above(path)), Group):
                losses.append(("path", path))
                continue
            kept[path] = self.thing(found[path])
            if isinstance(kept[path], ArrayObject):
                losses += self.lost_chunks(path, kept[path].root, damaged)
        return kept, losses

    def lost_chunks(self, path, root, damaged):
        _, pairs, torn = self.walk(root, damaged)
        losses = [("nodes", path)] if torn else []
        return losses + [("chunk", path, grid) for grid, pointer in pairs if pointer in damaged]

    def chunks_left(self, array, damaged):
        """The grid indexes of the chunks of an array that can still be read."""
        return [grid for grid, pointer in self.walk(array.root, damaged)[1] if pointer not in damaged]
